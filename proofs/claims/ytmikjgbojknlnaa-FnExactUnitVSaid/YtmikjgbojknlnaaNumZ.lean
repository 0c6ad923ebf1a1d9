/- Plain arithmetic of wide integers: a wide integer v has the halves hiW v and loW v; what lies between -2^127 and 2^127 - 1 is given back by its halves. Conditions: as each lemma says. Plain arithmetic of the negative, the complement and the sum of wide integers, in the forms in which the program's words compute them. Conditions: as each lemma says. Plain arithmetic of products of wide integers' halves. Conditions: as each lemma says. Plain arithmetic of shifts, sums and comparisons of wide integers. Conditions: as each lemma says. Plain arithmetic of long division, bit by bit. Conditions: as each lemma says. Plain arithmetic of the division of a number of two digits by one, to base 2^32, with a guessed digit. Conditions: as each lemma says. Plain arithmetic of quotients of wide integers, by halves and by signs. Conditions: as each lemma says. Plain arithmetic of square roots, bit by bit. Conditions: as each lemma says. Numbers: the root found bit by bit is the root. Conditions: the number is below 2^128. Plain arithmetic of fixed-point numbers: quotients rounded down and up, and numbers that are kept only if they are fixes. Conditions: as each lemma says. Plain arithmetic of intervals: pairs of ends, whole unless bounded. Conditions: as each lemma says. Plain arithmetic of products, quotients, common parts and overlaps of intervals, as the model computes them. Conditions: as each lemma says. -/
import Derived.Test.YtmikjgbojknlnaaBase
import Derived.Laws.Bits64b
import Derived.Shelf.Bits.Mul64
namespace Go.Proofs.Ytmikjgbojknlnaa

/-- 2^64. -/
def B64 : Int := 18446744073709551616
/-- The high half of a wide integer. -/
def hiW (v : Int) : Int := v / B64
/-- The low half. -/
def loW (v : Int) : Int := v % B64
/-- What a Wide can hold. -/
def InW (v : Int) : Prop := -170141183460469231731687303715884105728 ≤ v ∧ v ≤ 170141183460469231731687303715884105727
/-- What an int64 can hold. -/
def In64 (v : Int) : Prop := -9223372036854775808 ≤ v ∧ v ≤ 9223372036854775807
/-- What a uint64 can hold. -/
def InU (v : Int) : Prop := 0 ≤ v ∧ v ≤ 18446744073709551615

theorem hiW_in {v : Int} (h : InW v) : -9223372036854775808 ≤ hiW v ∧ hiW v ≤ 9223372036854775807 := by
  unfold InW at h; unfold hiW B64; omega
theorem loW_in (v : Int) : 0 ≤ loW v ∧ loW v ≤ 18446744073709551615 := by
  unfold loW B64; omega
theorem val_hl (v : Int) : hiW v * B64 + loW v = v := by
  unfold hiW loW B64; omega
theorem hl_val (h l : Int) (h0 : 0 ≤ l) (h1 : l ≤ 18446744073709551615) : hiW (h * B64 + l) = h ∧ loW (h * B64 + l) = l := by
  unfold hiW loW B64; omega
/-- Every pair of halves is that of a wide integer. -/
theorem of_halves (h l : Int) (a : -9223372036854775808 ≤ h ∧ h ≤ 9223372036854775807) (b : 0 ≤ l ∧ l ≤ 18446744073709551615) :
    ∃ v, InW v ∧ h = hiW v ∧ l = loW v :=
  ⟨h * B64 + l, by unfold InW B64; omega, (hl_val h l b.1 b.2).1.symm, (hl_val h l b.1 b.2).2.symm⟩
theorem same_hl {u v : Int} (h : hiW u = hiW v) (l : loW u = loW v) : u = v := by
  rw [← val_hl u, ← val_hl v, h, l]
theorem hiW_small {n : Int} (h : In64 n) : hiW n = if n < 0 then -1 else 0 := by
  unfold In64 at h; unfold hiW B64; split <;> omega
theorem hiW_neg {n : Int} (h : In64 n) (hn : n < 0) : hiW n = -1 := by
  unfold In64 at h; unfold hiW B64; omega
theorem hiW_pos {n : Int} (h : In64 n) (hn : ¬ n < 0) : hiW n = 0 := by
  unfold In64 at h; unfold hiW B64; omega
end Go.Proofs.Ytmikjgbojknlnaa
namespace Go.Proofs.Ytmikjgbojknlnaa
open Go.RowKit
set_option linter.unusedVariables false
set_option maxRecDepth 100000
set_option linter.unusedSimpArgs false
set_option maxHeartbeats 1000000

theorem wrapU (n : Int) : IntKind.u64.wrap n = loW n := by rw [IntKind.wrap_u64]; rfl
theorem wrap64_def (n : Int) : wrap64 n = (n + 9223372036854775808) % 18446744073709551616 - 9223372036854775808 := by unfold wrap64; rfl
theorem in64_wrap (n : Int) : In64 (wrap64 n) := by rw [wrap64_def]; unfold In64; omega
theorem inU_lo (n : Int) : InU (loW n) := loW_in n
theorem loW_self {n : Int} (h : InU n) : loW n = n := by unfold InU at h; unfold loW B64; omega
theorem wrap64_self {n : Int} (h : In64 n) : wrap64 n = n := by unfold In64 at h; rw [wrap64_def]; omega

/-- The bitwise complement of an int64. -/
theorem not_i64 {h : Int} (hh : In64 h) : bits .xor .i64 (-1) h = -1 - h := by
  show IntKind.i64.wrap ((BitVec.ofInt 64 (-1) ^^^ BitVec.ofInt 64 h).toNat : Int) = _
  have e : (BitVec.ofInt 64 (-1) ^^^ BitVec.ofInt 64 h) = ~~~ BitVec.ofInt 64 h := by
    have : BitVec.ofInt 64 (-1) = BitVec.allOnes 64 := by decide
    rw [this, BitVec.allOnes_xor]
  rw [e, BitVec.toNat_not, BitVec.toNat_ofInt, IntKind.wrap_i64]
  unfold In64 at hh
  omega
/-- The bitwise complement of a uint64. -/
theorem not_u64 {l : Int} (hl : InU l) : bits .xor .u64 IntKind.u64.max l = 18446744073709551615 - l := by
  show IntKind.u64.wrap ((BitVec.ofInt 64 18446744073709551615 ^^^ BitVec.ofInt 64 l).toNat : Int) = _
  have e : (BitVec.ofInt 64 18446744073709551615 ^^^ BitVec.ofInt 64 l) = ~~~ BitVec.ofInt 64 l := by
    have : BitVec.ofInt 64 18446744073709551615 = BitVec.allOnes 64 := by decide
    rw [this, BitVec.allOnes_xor]
  rw [e, BitVec.toNat_not, BitVec.toNat_ofInt, IntKind.wrap_u64]
  unfold InU at hl
  omega

/-- The negative, modulo 2^128. -/
def negW (v : Int) : Int := if v = -170141183460469231731687303715884105728 then v else -v
theorem negW_in {v : Int} (h : InW v) : InW (negW v) := by unfold InW at *; unfold negW; split <;> omega
/-- The complement. -/
theorem compl_in {v : Int} (h : InW v) : InW (-1 - v) := by unfold InW at *; omega
theorem compl_hl {v : Int} (h : InW v) : hiW (-1 - v) = -1 - hiW v ∧ loW (-1 - v) = 18446744073709551615 - loW v := by
  unfold hiW loW B64; omega
theorem neg_zero {v : Int} (h : InW v) (l : loW v = 0) : hiW (negW v) = wrap64 (-hiW v) ∧ loW (negW v) = 0 := by
  rw [wrap64_def]; unfold InW at h; unfold loW B64 at l; unfold negW hiW loW B64; split <;> omega
theorem neg_some {v : Int} (h : InW v) (l : ¬ loW v = 0) : hiW (negW v) = -1 - hiW v ∧ loW (negW v) = loW (-loW v) := by
  unfold InW at h; unfold loW B64 at l; unfold negW hiW loW B64; split <;> omega
/-- The sum, modulo 2^128. -/
def addW (u v : Int) : Int := (u + v + 170141183460469231731687303715884105728) % 340282366920938463463374607431768211456 - 170141183460469231731687303715884105728
theorem addW_in (u v : Int) : InW (addW u v) := by unfold InW addW; omega
theorem addW_self {u v : Int} (h : InW (u + v)) : addW u v = u + v := by unfold InW at h; unfold addW; omega
theorem add_carry {u v : Int} (hu : InW u) (hv : InW v) (c : loW (loW u + loW v) < loW u) :
    hiW (addW u v) = wrap64 (wrap64 (hiW u + hiW v) + 1) ∧ loW (addW u v) = loW (loW u + loW v) := by
  rw [wrap64_def, wrap64_def]; unfold InW at *; unfold loW B64 at c; unfold addW hiW loW B64; omega
theorem add_plain {u v : Int} (hu : InW u) (hv : InW v) (c : ¬ loW (loW u + loW v) < loW u) :
    hiW (addW u v) = wrap64 (hiW u + hiW v) ∧ loW (addW u v) = loW (loW u + loW v) := by
  rw [wrap64_def]; unfold InW at *; unfold loW B64 at c; unfold addW hiW loW B64; omega
instance (v : Int) : Decidable (In64 v) := by unfold In64; infer_instance
/-- Is a wide integer an int64? -/
def okW (v : Int) : Bool := decide (In64 v)
/-- The int64 of a wide integer; 0 if there is none. -/
def intW (v : Int) : Int := if In64 v then v else 0
theorem lo_back {v : Int} (h : In64 v) : wrap64 (loW v) = v := by
  rw [wrap64_def]; unfold In64 at h; unfold loW B64; omega
theorem hi_other {v : Int} (hv : InW v) (h : ¬ In64 v) : ¬ hiW (wrap64 (loW v)) = hiW v := by
  rw [wrap64_def]; unfold InW at hv; unfold In64 at h; unfold hiW loW B64; omega
theorem lo_lo (v : Int) : loW (wrap64 (loW v)) = loW v := by
  rw [wrap64_def]; unfold loW B64; omega
end Go.Proofs.Ytmikjgbojknlnaa
namespace Go.Proofs.Ytmikjgbojknlnaa
open Go.RowKit
set_option linter.unusedVariables false
set_option maxRecDepth 100000
set_option linter.unusedSimpArgs false
set_option maxHeartbeats 1000000

theorem natAbs_le64 {a : Int} (h : In64 a) : a.natAbs ≤ 9223372036854775808 := by unfold In64 at h; omega
/-- The product of two int64 is far within a Wide. -/
theorem mul_small {a b : Int} (ha : In64 a) (hb : In64 b) :
    -85070591730234615865843651857942052864 ≤ a * b ∧ a * b ≤ 85070591730234615865843651857942052864 := by
  have h : (a * b).natAbs ≤ 9223372036854775808 * 9223372036854775808 := by
    rw [Int.natAbs_mul]; exact Nat.mul_le_mul (natAbs_le64 ha) (natAbs_le64 hb)
  omega
theorem mul_in {a b : Int} (ha : In64 a) (hb : In64 b) : InW (a * b) := by
  have := mul_small ha hb; unfold InW; omega
theorem abs_mul_same {a b : Int} (h : (a < 0) = (b < 0)) : (a.natAbs : Int) * (b.natAbs : Int) = a * b := by
  by_cases ha : a < 0
  · have hb : b < 0 := by rw [← h]; exact ha
    have e1 : (a.natAbs : Int) = -a := by omega
    have e2 : (b.natAbs : Int) = -b := by omega
    rw [e1, e2, Int.neg_mul_neg]
  · have hb : ¬ b < 0 := by rw [← h]; exact ha
    have e1 : (a.natAbs : Int) = a := by omega
    have e2 : (b.natAbs : Int) = b := by omega
    rw [e1, e2]
theorem abs_mul_other {a b : Int} (h : ¬ (a < 0) = (b < 0)) : (a.natAbs : Int) * (b.natAbs : Int) = -(a * b) := by
  by_cases ha : a < 0
  · have hb : ¬ b < 0 := fun hb => h (by simp [ha, hb])
    have e1 : (a.natAbs : Int) = -a := by omega
    have e2 : (b.natAbs : Int) = b := by omega
    rw [e1, e2, Int.neg_mul]
  · have hb : b < 0 := by
      by_cases hb : b < 0
      · exact hb
      · exact absurd (by simp [ha, hb]) h
    have e1 : (a.natAbs : Int) = a := by omega
    have e2 : (b.natAbs : Int) = -b := by omega
    rw [e1, e2, Int.mul_neg]
/-- The product of the sizes. -/
def absMul (a b : Int) : Int := (a.natAbs : Int) * (b.natAbs : Int)
theorem absMul_in {a b : Int} (ha : In64 a) (hb : In64 b) : 0 ≤ absMul a b ∧ absMul a b ≤ 85070591730234615865843651857942052864 := by
  have h : a.natAbs * b.natAbs ≤ 9223372036854775808 * 9223372036854775808 := Nat.mul_le_mul (natAbs_le64 ha) (natAbs_le64 hb)
  unfold absMul
  rw [← Int.natCast_mul]
  omega
theorem absMul_inW {a b : Int} (ha : In64 a) (hb : In64 b) : InW (absMul a b) := by
  have := absMul_in ha hb; unfold InW; omega
theorem absMul_hi {a b : Int} (ha : In64 a) (hb : In64 b) : wrap64 (hiW (absMul a b)) = hiW (absMul a b) := by
  have := absMul_in ha hb
  apply wrap64_self; unfold In64 hiW B64; omega
theorem neg_absMul {a b : Int} (ha : In64 a) (hb : In64 b) (h : ¬ (a < 0) = (b < 0)) : negW (absMul a b) = a * b := by
  have k := absMul_in ha hb
  have e : absMul a b = -(a * b) := abs_mul_other h
  unfold negW
  rw [if_neg (by omega), e, Int.neg_neg]

/-- The product of the low halves of two int64, as a number: four cases of signs. -/
theorem lo_mul_pp {a b : Int} (ha : In64 a) (hb : In64 b) (sa : ¬ a < 0) (sb : ¬ b < 0) : loW a * loW b = a * b := by
  rw [loW_self (by unfold In64 InU at *; omega), loW_self (by unfold In64 InU at *; omega)]
theorem lo_neg {a : Int} (ha : In64 a) (sa : a < 0) : loW a = a + 18446744073709551616 := by
  unfold In64 at ha; unfold loW B64; omega
theorem lo_pos {a : Int} (ha : In64 a) (sa : ¬ a < 0) : loW a = a := by
  unfold In64 at ha; unfold loW B64; omega
theorem mulhi_pp {a b : Int} (ha : In64 a) (hb : In64 b) (sa : ¬ a < 0) (sb : ¬ b < 0) :
    wrap64 (hiW (loW a * loW b)) = hiW (a * b) ∧ loW (loW a * loW b) = loW (a * b) := by
  rw [lo_pos ha sa, lo_pos hb sb]
  have m := mul_small ha hb
  generalize a * b = p at *
  rw [wrap64_def]; unfold hiW loW B64; omega
theorem mulhi_np {a b : Int} (ha : In64 a) (hb : In64 b) (sa : a < 0) (sb : ¬ b < 0) :
    wrap64 (loW (hiW (loW a * loW b) - loW b)) = hiW (a * b) ∧ loW (loW a * loW b) = loW (a * b) := by
  rw [lo_neg ha sa, lo_pos hb sb, Int.add_mul]
  have m := mul_small ha hb
  unfold In64 at ha hb
  generalize a * b = p at *
  rw [wrap64_def]; unfold hiW loW B64; omega
theorem mulhi_pn {a b : Int} (ha : In64 a) (hb : In64 b) (sa : ¬ a < 0) (sb : b < 0) :
    wrap64 (loW (hiW (loW a * loW b) - loW a)) = hiW (a * b) ∧ loW (loW a * loW b) = loW (a * b) := by
  rw [lo_pos ha sa, lo_neg hb sb, Int.mul_add]
  have m := mul_small ha hb
  unfold In64 at ha hb
  generalize a * b = p at *
  rw [wrap64_def]; unfold hiW loW B64; omega
theorem mulhi_nn {a b : Int} (ha : In64 a) (hb : In64 b) (sa : a < 0) (sb : b < 0) :
    wrap64 (loW (loW (hiW (loW a * loW b) - loW b) - loW a)) = hiW (a * b) ∧ loW (loW a * loW b) = loW (a * b) := by
  rw [lo_neg ha sa, lo_neg hb sb, Int.add_mul, Int.mul_add]
  have m := mul_small ha hb
  unfold In64 at ha hb
  generalize a * b = p at *
  rw [wrap64_def]; unfold hiW loW B64; omega
end Go.Proofs.Ytmikjgbojknlnaa
namespace Go.Proofs.Ytmikjgbojknlnaa
open Go.RowKit
set_option linter.unusedVariables false
set_option maxRecDepth 100000
set_option linter.unusedSimpArgs false
set_option maxHeartbeats 1000000

/-- The quotient by 2^n, rounded down; 0 outside of 0 to 127. -/
def shrW (v n : Int) : Int := if 0 ≤ n ∧ n ≤ 127 then v / 2 ^ n.toNat else 0
theorem pow_pos' (k : Nat) : (0 : Int) < 2 ^ k := Int.pow_pos (by decide)
theorem shr_in' {v : Int} (h : InW v) (k : Nat) : InW (v / 2 ^ k) := by
  have hp := pow_pos' k
  generalize (2 : Int) ^ k = p at hp
  unfold InW at *
  have e := Int.mul_ediv_add_emod v p
  have r0 := Int.emod_nonneg v (show p ≠ 0 by omega)
  constructor
  · exact Int.le_ediv_of_mul_le hp (by
      have : (-170141183460469231731687303715884105728 : Int) * p ≤ -170141183460469231731687303715884105728 * 1 := Int.mul_le_mul_of_nonpos_left (by omega) (by omega)
      omega)
  · by_cases hv : 0 ≤ v
    · have := Int.ediv_le_self p hv; omega
    · have := Int.ediv_neg_of_neg_of_pos (show v < 0 by omega) hp; omega
theorem shr_in {v : Int} (h : InW v) (n : Int) : InW (shrW v n) := by
  unfold shrW; split
  · exact shr_in' h _
  · unfold InW; omega

/-- A wide integer of halves h and l, divided by P, where P Q = 2^64. -/
theorem shr_split {h l P Q : Int} (hP : 0 < P) (hQ : 0 < Q) (hPQ : P * Q = B64) (l0 : 0 ≤ l) (l1 : l < B64) :
    (h * B64 + l) / P = h * Q + l / P ∧ 0 ≤ l / P ∧ l / P < Q := by
  refine ⟨?_, Int.ediv_nonneg l0 (by omega), Int.ediv_lt_of_lt_mul hP (by rw [Int.mul_comm, hPQ]; exact l1)⟩
  have e : h * B64 + l = l + h * Q * P := by rw [← hPQ, Int.mul_comm P Q, Int.mul_assoc, Int.add_comm]
  rw [e, Int.add_mul_ediv_right _ _ (by omega), Int.add_comm]
theorem shr_low {h r P Q : Int} (hP : 0 < P) (hQ : 0 < Q) (hPQ : P * Q = B64) (r0 : 0 ≤ r) (r1 : r < Q) :
    (h * Q + r) % B64 = Q * (h % P) + r ∧ (h % B64 * Q) % B64 = Q * (h % P) := by
  have m0 := Int.emod_nonneg h (show P ≠ 0 by omega)
  have m1 := Int.emod_lt_of_pos h hP
  have e := Int.mul_ediv_add_emod h P
  have big : Q * (h % P) + r < B64 := by
    have : Q * (h % P) ≤ Q * (P - 1) := Int.mul_le_mul_of_nonneg_left (by omega) (by omega)
    rw [Int.mul_sub, Int.mul_one, Int.mul_comm Q P, hPQ] at this
    omega
  have pos : 0 ≤ Q * (h % P) := Int.mul_nonneg (by omega) m0
  constructor
  · have e2 : h * Q + r = Q * (h % P) + r + B64 * (h / P) := by
      rw [← hPQ]
      have : h * Q = (P * (h / P) + h % P) * Q := by rw [e]
      rw [this, Int.add_mul, Int.mul_comm (h % P) Q]
      have : P * (h / P) * Q = P * Q * (h / P) := by rw [Int.mul_assoc, Int.mul_comm (h / P) Q, ← Int.mul_assoc]
      omega
    rw [e2, Int.add_mul_emod_self_left, Int.emod_eq_of_lt (by omega) big]
  · have e3 : h % B64 * Q % B64 = h * Q % B64 := by rw [Int.mul_emod, Int.emod_emod, ← Int.mul_emod]
    rw [e3, ← hPQ, Int.mul_comm h Q, Int.mul_comm P Q, Int.mul_emod_mul_of_pos _ _ hQ]
theorem or_add {x r : Int} {k : Nat} (x0 : 0 ≤ x) (r0 : 0 ≤ r) (r1 : r < 2 ^ k) (b : 2 ^ k * x + r < B64) :
    bits .or .u64 (2 ^ k * x) r = 2 ^ k * x + r ∧ bits .or .u64 r (2 ^ k * x) = 2 ^ k * x + r := by
  obtain ⟨X, rfl⟩ : ∃ X : Nat, x = X := ⟨x.toNat, by omega⟩
  obtain ⟨R, rfl⟩ : ∃ R : Nat, r = R := ⟨r.toNat, by omega⟩
  have e : ((2 : Int) ^ k * X) = ((2 ^ k * X : Nat) : Int) := by simp
  have h1 : R < 2 ^ k := by
    have : ((2 : Int) ^ k) = ((2 ^ k : Nat) : Int) := by simp
    omega
  have hb : 2 ^ k * X + R < 18446744073709551616 := by unfold B64 at b; omega
  rw [e, bits_or_u64_nat _ _ (by omega) (by omega), bits_or_u64_nat _ _ (by omega) (by omega), Nat.or_comm R, ← Nat.two_pow_add_eq_or_of_lt h1]
  constructor <;> simp
theorem hi_div (v : Int) (k : Nat) : hiW (v / 2 ^ k) = hiW v / 2 ^ k := by
  unfold hiW B64
  have hp := pow_pos' k
  rw [Int.ediv_ediv_of_nonneg (by omega), Int.ediv_ediv_of_nonneg (by omega), Int.mul_comm]
theorem lo_div {v : Int} (hv : InW v) (k : Nat) (hk : k ≤ 64) :
    bits .or .u64 (loW (loW (hiW v) * 2 ^ (64 - k))) (loW v / 2 ^ k) = loW (v / 2 ^ k) ∧
    bits .or .u64 (loW v / 2 ^ k) (loW (loW (hiW v) * 2 ^ (64 - k))) = loW (v / 2 ^ k) := by
  have hP := pow_pos' k
  have hQ := pow_pos' (64 - k)
  have hPQ : (2 : Int) ^ k * 2 ^ (64 - k) = B64 := by
    rw [← Int.pow_add, show k + (64 - k) = 64 by omega]; rfl
  have l01 := loW_in v
  obtain ⟨e1, r0, r1⟩ := shr_split (h := hiW v) hP hQ hPQ l01.1 (by unfold B64; omega)
  obtain ⟨e2, e3⟩ := shr_low (h := hiW v) hP hQ hPQ r0 r1
  rw [val_hl] at e1
  have m0 := Int.emod_nonneg (hiW v) (show (2 : Int) ^ k ≠ 0 by omega)
  have e4 : loW (loW (hiW v) * 2 ^ (64 - k)) = 2 ^ (64 - k) * (hiW v % 2 ^ k) := by rw [← e3]; rfl
  have big : 2 ^ (64 - k) * (hiW v % 2 ^ k) + loW v / 2 ^ k < B64 := by
    rw [← e2]; unfold B64; omega
  obtain ⟨o1, o2⟩ := or_add (k := 64 - k) m0 r0 r1 big
  have e5 : loW (v / 2 ^ k) = 2 ^ (64 - k) * (hiW v % 2 ^ k) + loW v / 2 ^ k := by rw [← e2, ← e1]; rfl
  rw [e4, o1, o2, e5]
  exact ⟨rfl, rfl⟩
theorem hi_in64 {v : Int} (hv : InW v) (k : Nat) : In64 (hiW v / 2 ^ k) := by
  rw [← hi_div]; exact hiW_in (shr_in' hv k)
/-- A shift by 64 and more is one of the high half. -/
theorem div_high (v : Int) (k : Nat) : v / 2 ^ (64 + k) = hiW v / 2 ^ k := by
  unfold hiW B64
  rw [Int.pow_add, Int.ediv_ediv_of_nonneg (by omega)]
  rfl
theorem hi_sign {v : Int} (hv : InW v) (k : Nat) : hiW (hiW v / 2 ^ k) = hiW v / 9223372036854775808 := by
  have hi := hi_in64 hv k
  have hh := hiW_in hv
  have hp := pow_pos' k
  have s : hiW v / 2 ^ k < 0 ↔ hiW v < 0 := by
    constructor
    · intro h
      by_cases g : hiW v < 0
      · exact g
      · exact absurd (Int.ediv_nonneg (show 0 ≤ hiW v by omega) (show 0 ≤ (2 : Int) ^ k by omega)) (by omega)
    · intro h; exact Int.ediv_neg_of_neg_of_pos h hp
  rw [hiW_small hi]
  split <;> omega

/-- The order of two wide integers, by their halves. -/
def cmpHL (h l g m : Int) : Int := if h < g ∨ (h = g ∧ l < m) then -1 else if h = g ∧ l = m then 0 else 1
theorem cmp_val (u v : Int) : cmpHL (hiW u) (loW u) (hiW v) (loW v) = if u < v then -1 else if u = v then 0 else 1 := by
  unfold cmpHL hiW loW B64
  repeat' split
  all_goals omega

instance (v : Int) : Decidable (InW v) := by unfold InW; infer_instance
/-- The sum; 0 if it is no Wide. -/
def sumW (u v : Int) : Int := if InW (u + v) then u + v else 0
def sumOk (u v : Int) : Bool := decide (InW (u + v))
/-- What is carried. -/
def carryW (x y c : Int) : Int := hiW (x + y + c)
theorem carry_01 {x y c : Int} (hx : InU x) (hy : InU y) (hc : c = 0 ∨ c = 1) : carryW x y c = 0 ∨ carryW x y c = 1 := by
  unfold InU at hx hy; unfold carryW hiW B64; omega
theorem add_low (u v : Int) : loW (loW u + loW v) = loW (addW u v) := by
  unfold addW loW B64; omega
theorem add_high {u v : Int} (hu : InW u) (hv : InW v) : loW (loW (hiW u) + loW (hiW v) + carryW (loW u) (loW v) 0) = loW (hiW (addW u v)) := by
  unfold InW at hu hv; unfold carryW addW loW hiW B64; omega
theorem sum_over {u v : Int} (hu : InW u) (hv : InW v) (s : (hiW u < 0) = (hiW v < 0)) (t : ¬ (hiW (addW u v) < 0) = (hiW u < 0)) : sumOk u v = false ∧ sumW u v = 0 := by
  have h : ¬ InW (u + v) := by
    intro k
    rw [addW_self k] at t
    apply t
    unfold InW at *
    have a : (hiW (u + v) < 0) ↔ u + v < 0 := by unfold hiW B64; omega
    have b : (hiW u < 0) ↔ u < 0 := by unfold hiW B64; omega
    have c : (hiW v < 0) ↔ v < 0 := by unfold hiW B64; omega
    rw [b, c] at s
    apply propext
    rw [a, b]
    have := iff_of_eq s
    omega
  exact ⟨decide_eq_false h, if_neg h⟩
theorem sum_fits {u v : Int} (hu : InW u) (hv : InW v) (s : ¬ (hiW u < 0) = (hiW v < 0) ∨ (hiW (addW u v) < 0) = (hiW u < 0)) : sumOk u v = true ∧ sumW u v = addW u v := by
  have h : InW (u + v) := by
    have a : (hiW (addW u v) < 0) ↔ addW u v < 0 := by unfold hiW B64; omega
    have b : (hiW u < 0) ↔ u < 0 := by unfold hiW B64; omega
    have c : (hiW v < 0) ↔ v < 0 := by unfold hiW B64; omega
    rcases s with s | s
    · have : ¬ (u < 0 ↔ v < 0) := fun k => s (propext (by rw [b, c]; exact k))
      unfold InW at *; omega
    · have := iff_of_eq s
      rw [a, b] at this
      unfold addW at this
      unfold InW at *; omega
  exact ⟨decide_eq_true h, by rw [addW_self h]; exact if_pos h⟩
/-- The negative; 0 if it is no Wide. -/
def oppW (v : Int) : Int := if v = -170141183460469231731687303715884105728 then 0 else -v
def oppOk (v : Int) : Bool := decide (¬ v = -170141183460469231731687303715884105728)
theorem opp_least {v : Int} (hv : InW v) (h : hiW v = -9223372036854775808) (l : loW v = 0) : oppW v = 0 ∧ oppOk v = false := by
  have e : v = -170141183460469231731687303715884105728 := by rw [← val_hl v, h, l]; rfl
  exact ⟨if_pos e, by unfold oppOk; simp [e]⟩
theorem opp_other {v : Int} (hv : InW v) (h : ¬ (hiW v = -9223372036854775808 ∧ loW v = 0)) : oppW v = negW v ∧ oppOk v = true := by
  have e : ¬ v = -170141183460469231731687303715884105728 := by
    intro e; apply h; rw [e]; exact ⟨rfl, rfl⟩
  exact ⟨by unfold oppW negW; rw [if_neg e, if_neg e], by unfold oppOk; simp [e]⟩
end Go.Proofs.Ytmikjgbojknlnaa
namespace Go.Proofs.Ytmikjgbojknlnaa
open Go.RowKit
set_option linter.unusedVariables false
set_option maxRecDepth 100000
set_option linter.unusedSimpArgs false
set_option maxHeartbeats 1000000

/-- What has been taken of the dividend behind t bits: R 2^t and the t highest bits of l. -/
def ldN (R l : Int) (t : Nat) : Int := R * 2 ^ t + l / 2 ^ (64 - t)
def ldQ (R l d : Int) (t : Nat) : Int := ldN R l t / d
def ldR (R l d : Int) (t : Nat) : Int := ldN R l t % d
def ldBit (l : Int) (t : Nat) : Int := l / 2 ^ (63 - t) % 2
theorem ldN_zero {R l : Int} (l0 : 0 ≤ l) (l1 : l < B64) : ldN R l 0 = R := by
  unfold ldN
  have : l / 2 ^ (64 - 0) = 0 := Int.ediv_eq_zero_of_lt l0 (by unfold B64 at l1; simpa using l1)
  rw [this]; simp
theorem ldN_end (R l : Int) : ldN R l 64 = R * B64 + l := by
  unfold ldN; simp [B64]
theorem ldN_succ {R l : Int} {t : Nat} (ht : t < 64) : ldN R l (t + 1) = 2 * ldN R l t + ldBit l t := by
  unfold ldN ldBit
  have e1 : (2 : Int) ^ (64 - t) = 2 ^ (63 - t) * 2 := by rw [show 64 - t = (63 - t) + 1 by omega]; exact Int.pow_succ _ _
  have e2 : l / 2 ^ (64 - t) = l / 2 ^ (63 - t) / 2 := by
    rw [e1, Int.ediv_ediv_of_nonneg (by have := pow_pos' (63 - t); omega)]
  have e3 : 64 - (t + 1) = 63 - t := by omega
  rw [e2, e3, Int.pow_succ, ← Int.mul_assoc]
  generalize R * 2 ^ t = A
  generalize l / 2 ^ (63 - t) = B
  omega
theorem ldBit_in (l : Int) (t : Nat) : 0 ≤ ldBit l t ∧ ldBit l t ≤ 1 := by unfold ldBit; omega
theorem ldR_in {R l d : Int} (hd : 0 < d) (t : Nat) : 0 ≤ ldR R l d t ∧ ldR R l d t < d :=
  ⟨Int.emod_nonneg _ (by omega), Int.emod_lt_of_pos _ hd⟩
theorem ldQ_in {R l d : Int} (R0 : 0 ≤ R) (Rd : R < d) (l0 : 0 ≤ l) (l1 : l < B64) {t : Nat} (ht : t ≤ 64) : 0 ≤ ldQ R l d t ∧ ldQ R l d t < 2 ^ t := by
  have hp := pow_pos' t
  have hq := pow_pos' (64 - t)
  have hl : 0 ≤ l / 2 ^ (64 - t) := Int.ediv_nonneg l0 (by omega)
  have hl2 : l / 2 ^ (64 - t) < 2 ^ t := Int.ediv_lt_of_lt_mul hq (by rw [← Int.pow_add, show t + (64 - t) = 64 by omega]; unfold B64 at l1; simpa using l1)
  have hR : R * 2 ^ t ≤ (d - 1) * 2 ^ t := Int.mul_le_mul_of_nonneg_right (by omega) (by omega)
  have hR0 : 0 ≤ R * 2 ^ t := Int.mul_nonneg R0 (by omega)
  unfold ldQ ldN
  refine ⟨Int.ediv_nonneg (by omega) (by omega), Int.ediv_lt_of_lt_mul (by omega) ?_⟩
  rw [Int.sub_mul, Int.one_mul] at hR
  rw [Int.mul_comm (2 ^ t) d]
  omega
theorem ld_yes {R l d : Int} (hd : 0 < d) {t : Nat} (ht : t < 64) (c : d ≤ 2 * ldR R l d t + ldBit l t) :
    ldR R l d (t + 1) = 2 * ldR R l d t + ldBit l t - d ∧ ldQ R l d (t + 1) = 2 * ldQ R l d t + 1 := by
  have r := ldR_in (R := R) (l := l) hd t
  have b := ldBit_in l t
  have e := Int.mul_ediv_add_emod (ldN R l t) d
  have n := ldN_succ (R := R) (l := l) ht
  have k : ldN R l (t + 1) = d * (2 * ldQ R l d t + 1) + (2 * ldR R l d t + ldBit l t - d) := by
    rw [n, ← e]
    show 2 * (d * ldQ R l d t + ldR R l d t) + ldBit l t = _
    rw [Int.mul_add d, Int.mul_one, Int.mul_add, ← Int.mul_assoc, ← Int.mul_assoc, Int.mul_comm d 2]
    omega
  constructor
  · show ldN R l (t + 1) % d = _
    rw [k, Int.add_comm, Int.add_mul_emod_self_left, Int.emod_eq_of_lt (by omega) (by omega)]
  · show ldN R l (t + 1) / d = _
    rw [k, Int.add_comm, Int.add_mul_ediv_left _ _ (by omega), Int.ediv_eq_zero_of_lt (by omega) (by omega), Int.zero_add]
theorem ld_no {R l d : Int} (hd : 0 < d) {t : Nat} (ht : t < 64) (c : ¬ d ≤ 2 * ldR R l d t + ldBit l t) :
    ldR R l d (t + 1) = 2 * ldR R l d t + ldBit l t ∧ ldQ R l d (t + 1) = 2 * ldQ R l d t := by
  have r := ldR_in (R := R) (l := l) hd t
  have b := ldBit_in l t
  have e := Int.mul_ediv_add_emod (ldN R l t) d
  have n := ldN_succ (R := R) (l := l) ht
  have k : ldN R l (t + 1) = d * (2 * ldQ R l d t) + (2 * ldR R l d t + ldBit l t) := by
    rw [n, ← e]
    show 2 * (d * ldQ R l d t + ldR R l d t) + ldBit l t = _
    rw [Int.mul_add, ← Int.mul_assoc, ← Int.mul_assoc, Int.mul_comm d 2]
    omega
  constructor
  · show ldN R l (t + 1) % d = _
    rw [k, Int.add_comm, Int.add_mul_emod_self_left, Int.emod_eq_of_lt (by omega) (by omega)]
  · show ldN R l (t + 1) / d = _
    rw [k, Int.add_comm, Int.add_mul_ediv_left _ _ (by omega), Int.ediv_eq_zero_of_lt (by omega) (by omega), Int.zero_add]
/-- The two words by which a bit is taken in. -/
theorem and_one {x : Int} (h : InU x) : bits .and .u64 x 1 = x % 2 := by
  obtain ⟨X, rfl⟩ : ∃ X : Nat, x = X := ⟨x.toNat, by unfold InU at h; omega⟩
  unfold InU at h
  have := bits_and_u64_nat X 1 (by omega) (by omega)
  simp only [Nat.and_one_is_mod] at this
  rw [show ((1 : Int)) = ((1 : Nat) : Int) from rfl, this]; omega
theorem or_bit {x b : Int} (h0 : 0 ≤ x) (h1 : 2 * x + b < B64) (b0 : 0 ≤ b) (b1 : b ≤ 1) : bits .or .u64 (2 * x) b = 2 * x + b := by
  have := (or_add (k := 1) h0 b0 (by omega) (by simpa using h1)).1
  simpa using this
end Go.Proofs.Ytmikjgbojknlnaa
namespace Go.Proofs.Ytmikjgbojknlnaa
open Go.RowKit
set_option linter.unusedVariables false
set_option maxRecDepth 100000
set_option linter.unusedSimpArgs false
set_option maxHeartbeats 1000000

/-- A divisor y of halves a and b that is at least 2^63. -/
structure Normal (y a b : Int) : Prop where
  y : y = a * 4294967296 + b
  a0 : 2147483648 ≤ a
  a1 : a < 4294967296
  b0 : 0 ≤ b
  b1 : b < 4294967296

/-- The digit. -/
def digQ (u c y : Int) : Int := (u * 4294967296 + c) / y
/-- What is left. -/
def digR (u c y : Int) : Int := (u * 4294967296 + c) % y

theorem dig_in {u c y : Int} (u0 : 0 ≤ u) (u1 : u < y) (c0 : 0 ≤ c) (c1 : c < 4294967296) :
    0 ≤ digQ u c y ∧ digQ u c y < 4294967296 ∧ 0 ≤ digR u c y ∧ digR u c y < y ∧ digQ u c y * y + digR u c y = u * 4294967296 + c := by
  have hy : 0 < y := by omega
  refine ⟨Int.ediv_nonneg (by omega) (by omega), Int.ediv_lt_of_lt_mul hy (by omega), Int.emod_nonneg _ (by omega), Int.emod_lt_of_pos _ hy, ?_⟩
  unfold digQ digR
  rw [Int.mul_comm]
  exact Int.mul_ediv_add_emod _ _

/-- What the guess keeps: the digit is not greater. -/
structure Guess (u c y a b q r : Int) : Prop where
  sum : q * a + r = u
  r0 : 0 ≤ r
  q0 : 0 ≤ q
  q1 : q ≤ 4294967297
  le : digQ u c y ≤ q

theorem guess_start {u c y a b : Int} (n : Normal y a b) (u0 : 0 ≤ u) (u1 : u < y) (c0 : 0 ≤ c) (c1 : c < 4294967296) :
    Guess u c y a b (u / a) (u % a) ∧ u % a < 4294967296 := by
  obtain ⟨hy, a0, a1, b0, b1⟩ := n
  have ha : 0 < a := by omega
  have r0 := Int.emod_nonneg u (show a ≠ 0 by omega)
  have r1 := Int.emod_lt_of_pos u ha
  have e := Int.mul_ediv_add_emod u a
  refine ⟨⟨by rw [Int.mul_comm]; exact e, r0, Int.ediv_nonneg u0 (by omega), ?_, ?_⟩, by omega⟩
  · have : u / a < 4294967298 := Int.ediv_lt_of_lt_mul ha (by omega)
    omega
  · obtain ⟨q0, q1, s0, s1, es⟩ := dig_in u0 u1 c0 c1
    apply Int.le_ediv_of_mul_le ha
    have k : digQ u c y * y = digQ u c y * a * 4294967296 + digQ u c y * b := by rw [hy, Int.mul_add, ← Int.mul_assoc]
    have k2 : 0 ≤ digQ u c y * b := Int.mul_nonneg q0 b0
    omega

/-- A guess that is seen to be too great. -/
theorem guess_more {u c y a b q r : Int} (n : Normal y a b) (u0 : 0 ≤ u) (u1 : u < y) (c0 : 0 ≤ c) (c1 : c < 4294967296) (g : Guess u c y a b q r)
    (t : 4294967296 ≤ q ∨ 4294967296 * r + c < q * b) : Guess u c y a b (q - 1) (r + a) ∧ 1 ≤ q := by
  obtain ⟨hy, a0, a1, b0, b1⟩ := n
  obtain ⟨sum, r0, q0, q1, le⟩ := g
  obtain ⟨d0, d1, s0, s1, es⟩ := dig_in u0 u1 c0 c1
  have lt : digQ u c y < q := by
    rcases t with t | t
    · omega
    · apply Int.ediv_lt_of_lt_mul (by omega)
      have k : q * y = q * a * 4294967296 + q * b := by rw [hy, Int.mul_add, ← Int.mul_assoc]
      omega
  refine ⟨⟨?_, by omega, by omega, by omega, by omega⟩, by omega⟩
  rw [Int.sub_mul, Int.one_mul]; omega

/-- A guess that is not seen to be too great is the digit. -/
theorem guess_right {u c y a b q r : Int} (n : Normal y a b) (u0 : 0 ≤ u) (u1 : u < y) (c0 : 0 ≤ c) (c1 : c < 4294967296) (g : Guess u c y a b q r)
    (t : q * b ≤ 4294967296 * r + c) : q = digQ u c y := by
  obtain ⟨hy, a0, a1, b0, b1⟩ := n
  obtain ⟨sum, r0, q0, q1, le⟩ := g
  have k : q * y = q * a * 4294967296 + q * b := by rw [hy, Int.mul_add, ← Int.mul_assoc]
  have : q ≤ digQ u c y := Int.le_ediv_of_mul_le (by omega) (by omega)
  omega
/-- So is one behind which so much is left that nothing can be seen. -/
theorem guess_break {u c y a b q r : Int} (n : Normal y a b) (u0 : 0 ≤ u) (u1 : u < y) (c0 : 0 ≤ c) (c1 : c < 4294967296) (g : Guess u c y a b q r)
    (hq : q ≤ 4294967296) (t : 4294967296 ≤ r) : q = digQ u c y := by
  have n' := n
  obtain ⟨hy, a0, a1, b0, b1⟩ := n'
  refine guess_right n u0 u1 c0 c1 g ?_
  have : q * b ≤ 4294967296 * b := Int.mul_le_mul_of_nonneg_right hq b0
  omega
/-- What is left, by words that wrap. -/
theorem dig_rest {u c y : Int} (u0 : 0 ≤ u) (u1 : u < y) (c0 : 0 ≤ c) (c1 : c < 4294967296) (y1 : y ≤ 18446744073709551616) :
    loW (loW (loW (u * 4294967296) + c) - loW (digQ u c y * y)) = digR u c y := by
  obtain ⟨d0, d1, s0, s1, es⟩ := dig_in u0 u1 c0 c1
  unfold loW B64
  generalize digQ u c y * y = P at *
  omega

/-- The division by the normalized divisor, digit by digit. -/
theorem two_digits {N y u c e : Int} (u0 : 0 ≤ u) (u1 : u < y) (c0 : 0 ≤ c) (c1 : c < 4294967296) (e0 : 0 ≤ e) (e1 : e < 4294967296)
    (hN : N = u * 18446744073709551616 + c * 4294967296 + e) :
    N / y = digQ u c y * 4294967296 + digQ (digR u c y) e y ∧ N % y = digR (digR u c y) e y := by
  obtain ⟨d0, d1, s0, s1, es⟩ := dig_in u0 u1 c0 c1
  obtain ⟨g0, g1, t0, t1, et⟩ := dig_in s0 s1 e0 e1
  have k : N = digR (digR u c y) e y + y * (digQ u c y * 4294967296 + digQ (digR u c y) e y) := by
    rw [Int.mul_comm y, Int.add_mul]
    have : digQ u c y * 4294967296 * y = digQ u c y * y * 4294967296 := by rw [Int.mul_assoc, Int.mul_comm 4294967296 y, ← Int.mul_assoc]
    omega
  have hy : 0 < y := by omega
  constructor
  · rw [k, Int.add_mul_ediv_left _ _ (by omega), Int.ediv_eq_zero_of_lt t0 t1, Int.zero_add]
  · rw [k, Int.add_mul_emod_self_left, Int.emod_eq_of_lt t0 t1]

/-- A number of two halves and its divisor, both times 2^s. -/
theorem scaled {hi lo d : Int} {k : Nat} (hk : k ≤ 64) (h0 : 0 ≤ hi) (h1 : hi < d) (l0 : 0 ≤ lo) (l1 : lo < B64) (hy : d * 2 ^ k < B64 + 1) :
    (hi * B64 + lo) * 2 ^ k = (hi * 2 ^ k + lo / 2 ^ (64 - k)) * B64 + loW (lo * 2 ^ k) ∧ hi * 2 ^ k + lo / 2 ^ (64 - k) < d * 2 ^ k ∧
      0 ≤ hi * 2 ^ k ∧ 0 ≤ lo / 2 ^ (64 - k) ∧ lo / 2 ^ (64 - k) < 2 ^ k := by
  have hp := pow_pos' k
  have hq := pow_pos' (64 - k)
  have hpq : (2 : Int) ^ (64 - k) * 2 ^ k = B64 := by rw [← Int.pow_add, show 64 - k + k = 64 by omega]; rfl
  have s0 : 0 ≤ lo / 2 ^ (64 - k) := Int.ediv_nonneg l0 (by omega)
  have s1 : lo / 2 ^ (64 - k) < 2 ^ k := Int.ediv_lt_of_lt_mul hq (by rw [Int.mul_comm, hpq]; exact l1)
  have hm : hi * 2 ^ k + 2 ^ k ≤ d * 2 ^ k := by
    have : (hi + 1) * 2 ^ k ≤ d * 2 ^ k := Int.mul_le_mul_of_nonneg_right (by omega) (by omega)
    rwa [Int.add_mul, Int.one_mul] at this
  refine ⟨?_, by omega, Int.mul_nonneg h0 (by omega), s0, s1⟩
  have e : lo * 2 ^ k = lo / 2 ^ (64 - k) * B64 + loW (lo * 2 ^ k) := by
    have q : lo * 2 ^ k / B64 = lo / 2 ^ (64 - k) := by
      rw [← hpq, Int.mul_ediv_mul_of_pos_left _ _ hp]
    have := Int.mul_ediv_add_emod (lo * 2 ^ k) B64
    rw [q, Int.mul_comm] at this
    unfold loW; omega
  rw [Int.add_mul, Int.add_mul (hi * 2 ^ k)]
  have : hi * B64 * 2 ^ k = hi * 2 ^ k * B64 := by rw [Int.mul_assoc, Int.mul_comm B64, ← Int.mul_assoc]
  omega
end Go.Proofs.Ytmikjgbojknlnaa
namespace Go.Proofs.Ytmikjgbojknlnaa
open Go.RowKit
set_option linter.unusedVariables false
set_option maxRecDepth 100000
set_option linter.unusedSimpArgs false
set_option maxHeartbeats 1000000

/-- A number of two halves, divided. -/
theorem div_halves {m d : Int} (m0 : 0 ≤ m) (m1 : m < 340282366920938463463374607431768211456) (d0 : 1 ≤ d) :
    hiW (m / d) = hiW m / d ∧ loW (m / d) = (hiW m % d * B64 + loW m) / d ∧ m % d = (hiW m % d * B64 + loW m) % d ∧
      (0 ≤ (hiW m % d * B64 + loW m) / d ∧ (hiW m % d * B64 + loW m) / d < B64) ∧ 0 ≤ hiW m ∧ hiW m < B64 := by
  have e := val_hl m
  have l := loW_in m
  have h0 : 0 ≤ hiW m := by unfold hiW B64; omega
  have h1 : hiW m < B64 := by unfold hiW B64; omega
  have r0 := Int.emod_nonneg (hiW m) (show d ≠ 0 by omega)
  have r1 := Int.emod_lt_of_pos (hiW m) (show 0 < d by omega)
  have q := Int.mul_ediv_add_emod (hiW m) d
  have hb : (0 : Int) < B64 := by unfold B64; omega
  have n0 : 0 ≤ hiW m % d * B64 + loW m := by have := Int.mul_nonneg r0 (show 0 ≤ B64 by omega); omega
  have n1 : (hiW m % d * B64 + loW m) / d < B64 := by
    apply Int.ediv_lt_of_lt_mul (by omega)
    have : hiW m % d * B64 ≤ (d - 1) * B64 := Int.mul_le_mul_of_nonneg_right (by omega) (by omega)
    rw [Int.sub_mul, Int.one_mul] at this
    rw [Int.mul_comm B64 d]
    have : loW m < B64 := by unfold B64; omega
    omega
  have n2 : 0 ≤ (hiW m % d * B64 + loW m) / d := Int.ediv_nonneg n0 (by omega)
  have k : m = hiW m % d * B64 + loW m + d * (hiW m / d * B64) := by
    have : d * (hiW m / d * B64) = d * (hiW m / d) * B64 := by rw [Int.mul_assoc]
    have h2 : (d * (hiW m / d) + hiW m % d) * B64 = hiW m * B64 := by rw [q]
    rw [Int.add_mul] at h2
    omega
  have kd : m / d = (hiW m % d * B64 + loW m) / d + hiW m / d * B64 := by
    conv => lhs; rw [k]
    exact Int.add_mul_ediv_left _ _ (by omega)
  have km : m % d = (hiW m % d * B64 + loW m) % d := by
    conv => lhs; rw [k]
    exact Int.add_mul_emod_self_left _ _ _
  refine ⟨?_, ?_, km, ⟨n2, n1⟩, h0, h1⟩
  · show m / d / B64 = _
    rw [kd, Int.add_mul_ediv_right _ _ (by omega), Int.ediv_eq_zero_of_lt n2 n1]; exact Int.zero_add _
  · show m / d % B64 = _
    rw [kd, Int.add_mul_emod_self_right, Int.emod_eq_of_lt n2 n1]

theorem quo_in {v d : Int} (hv : InW v) (d0 : 1 ≤ d) : InW (v / d) := by
  unfold InW at *
  constructor
  · apply Int.le_ediv_of_mul_le (by omega)
    have : (-170141183460469231731687303715884105728 : Int) * d ≤ -170141183460469231731687303715884105728 * 1 := Int.mul_le_mul_of_nonpos_left (by omega) (by omega)
    omega
  · by_cases h : 0 ≤ v
    · have := Int.ediv_le_self d h; omega
    · have := Int.ediv_neg_of_neg_of_pos (show v < 0 by omega) (show 0 < d by omega); omega
theorem rem_in {v d : Int} (d0 : 1 ≤ d) : 0 ≤ v % d ∧ v % d < d := ⟨Int.emod_nonneg _ (by omega), Int.emod_lt_of_pos _ (by omega)⟩

/-- A quotient and a rest are known by their sum. -/
theorem div_known {v d q r : Int} (h : v = r + d * q) (r0 : 0 ≤ r) (r1 : r < d) : q = v / d ∧ r = v % d := by
  subst h
  rw [Int.add_mul_ediv_left _ _ (by omega), Int.ediv_eq_zero_of_lt r0 r1, Int.add_mul_emod_self_left, Int.emod_eq_of_lt r0 r1]
  omega
/-- By the complement. -/
theorem div_compl {v d : Int} (d0 : 1 ≤ d) : -1 - (-1 - v) / d = v / d ∧ d - 1 - (-1 - v) % d = v % d := by
  have e := Int.mul_ediv_add_emod (-1 - v) d
  have r := rem_in (v := -1 - v) d0
  exact div_known (by rw [Int.mul_sub]; omega) (by omega) (by omega)
/-- By the absolute value. -/
theorem div_abs {v d : Int} (d0 : 1 ≤ d) : (-v % d = 0 → -(-v / d) = v / d ∧ v % d = 0) ∧ (¬ -v % d = 0 → -(-v / d) - 1 = v / d ∧ d - -v % d = v % d) := by
  have e := Int.mul_ediv_add_emod (-v) d
  have r := rem_in (v := -v) d0
  constructor
  · intro z
    have := div_known (v := v) (d := d) (q := -(-v / d)) (r := 0) (by rw [Int.mul_neg]; omega) (by omega) (by omega)
    exact ⟨this.1, this.2.symm⟩
  · intro z
    exact div_known (by rw [Int.mul_sub, Int.mul_neg]; omega) (by omega) (by omega)

/-- The absolute value of a wide integer, by its halves. -/
theorem abs_neg {v : Int} (hv : InW v) (h : v < 0) : loW (hiW (negW v)) = hiW (-v) ∧ loW (negW v) = loW (-v) := by
  unfold InW at hv; unfold negW hiW loW B64; split <;> omega
theorem abs_pos {v : Int} (hv : InW v) (h : ¬ v < 0) : loW (hiW v) = hiW v ∧ 0 ≤ hiW v := by
  unfold InW at hv; unfold hiW loW B64; omega
theorem hi_neg_iff {v : Int} : (hiW v < 0) ↔ v < 0 := by unfold hiW B64; omega
/-- The quotient, the rest, and whether they exist. -/
def quoW (v d : Int) : Int := if 1 ≤ d then v / d else 0
def remW (v d : Int) : Int := if 1 ≤ d then v % d else 0
def okD (d : Int) : Bool := decide (1 ≤ d)
end Go.Proofs.Ytmikjgbojknlnaa
namespace Go.Proofs.Ytmikjgbojknlnaa
open Go.RowKit
set_option linter.unusedVariables false
set_option maxRecDepth 100000
set_option linter.unusedSimpArgs false
set_option maxHeartbeats 1000000

/-- The root of m as far as the t lowest bits go on from r. -/
def rootFrom (m : Nat) : Nat → Nat → Nat
  | 0, r => r
  | s + 1, r => rootFrom m s (if (r + 2 ^ s) * (r + 2 ^ s) ≤ m then r + 2 ^ s else r)
/-- The square root, rounded down, of a number below 2^128. -/
def rootW (m : Nat) : Nat := rootFrom m 64 0
theorem rootFrom_yes {m s r : Nat} (h : (r + 2 ^ s) * (r + 2 ^ s) ≤ m) : rootFrom m s (r + 2 ^ s) = rootFrom m (s + 1) r := by
  show _ = rootFrom m s _
  rw [if_pos h]
theorem rootFrom_no {m s r : Nat} (h : ¬ (r + 2 ^ s) * (r + 2 ^ s) ≤ m) : rootFrom m s r = rootFrom m (s + 1) r := by
  show _ = rootFrom m s _
  rw [if_neg h]
/-- Digits that are too high are not taken. -/
theorem rootFrom_high {m D : Nat} (h : m < 2 ^ D * 2 ^ D) : ∀ k, rootFrom m (D + k) 0 = rootFrom m D 0
  | 0 => rfl
  | k + 1 => by
    rw [← rootFrom_high h k]
    apply Eq.symm
    apply rootFrom_no
    have : 2 ^ D * 2 ^ D ≤ 2 ^ (D + k) * 2 ^ (D + k) := Nat.mul_le_mul (Nat.pow_le_pow_right (by decide) (by omega)) (Nat.pow_le_pow_right (by decide) (by omega))
    rw [Nat.zero_add]
    omega
theorem rootW_digits {m D : Nat} (hD : D ≤ 64) (h : m < 2 ^ D * 2 ^ D) : rootFrom m D 0 = rootW m := by
  have := rootFrom_high h (64 - D)
  rw [show D + (64 - D) = 64 by omega] at this
  exact this.symm
/-- What a round keeps. -/
def RootAt (m t r : Nat) : Prop := (∃ k, r = 2 ^ t * k) ∧ r + 2 ^ t ≤ 18446744073709551616 ∧ rootFrom m t r = rootW m
theorem rootAt_start {m D : Nat} (hD : D ≤ 64) (h : m < 2 ^ D * 2 ^ D) : RootAt m D 0 :=
  ⟨⟨0, by simp⟩, by have := Nat.pow_le_pow_right (show 0 < 2 by decide) hD; omega, rootW_digits hD h⟩
theorem rootAt_in {m s r : Nat} (h : RootAt m (s + 1) r) : r + 2 ^ s < 18446744073709551616 := by
  have := h.2.1
  rw [Nat.pow_succ] at this
  have p : 0 < 2 ^ s := Nat.pow_pos (by decide)
  omega
theorem rootAt_yes {m s r : Nat} (h : RootAt m (s + 1) r) (c : (r + 2 ^ s) * (r + 2 ^ s) ≤ m) : RootAt m s (r + 2 ^ s) := by
  obtain ⟨⟨k, hk⟩, b, e⟩ := h
  rw [Nat.pow_succ] at b hk
  refine ⟨⟨2 * k + 1, by rw [hk, Nat.mul_add, Nat.mul_one, Nat.mul_assoc]⟩, by omega, ?_⟩
  rw [rootFrom_yes c]; exact e
theorem rootAt_no {m s r : Nat} (h : RootAt m (s + 1) r) (c : ¬ (r + 2 ^ s) * (r + 2 ^ s) ≤ m) : RootAt m s r := by
  obtain ⟨⟨k, hk⟩, b, e⟩ := h
  rw [Nat.pow_succ] at b hk
  refine ⟨⟨2 * k, by rw [hk, Nat.mul_assoc]⟩, by omega, ?_⟩
  rw [rootFrom_no c]; exact e
/-- The word of the next number that is tried. -/
theorem rootAt_word {m s r : Nat} (h : RootAt m (s + 1) r) : bits .or .u64 (r : Int) (2 ^ s) = ((r + 2 ^ s : Nat) : Int) := by
  obtain ⟨⟨k, hk⟩, b, e⟩ := h
  rw [Nat.pow_succ] at b
  have p : 0 < 2 ^ s := Nat.pow_pos (by decide)
  have c : ((2 : Int) ^ s) = ((2 ^ s : Nat) : Int) := by simp
  have e1 : (r : Int) = 2 ^ (s + 1) * (k : Int) := by rw [hk]; simp
  have o := (or_add (k := s + 1) (x := (k : Int)) (r := 2 ^ s) (by omega) (by rw [c]; omega) (by rw [Int.pow_succ, c]; omega) (by rw [← e1, c]; unfold B64; omega)).1
  rw [← e1, c] at o
  rw [c, o]
  omega
/-- Whether a square is not greater, by halves. -/
theorem sq_halves {m n : Nat} (hm : m < 340282366920938463463374607431768211456) (hn : n < 18446744073709551616) :
    (hiW ((n : Int) * n) < hiW (m : Int) ∨ (hiW ((n : Int) * n) = hiW (m : Int) ∧ loW ((n : Int) * n) ≤ loW (m : Int))) ↔ n * n ≤ m := by
  have e : ((n : Int) * n) = ((n * n : Nat) : Int) := by simp
  rw [e]
  generalize n * n = q
  unfold hiW loW B64
  omega
end Go.Proofs.Ytmikjgbojknlnaa
namespace Go.Proofs.Ytmikjgbojknlnaa
set_option linter.unusedVariables false
set_option maxRecDepth 100000
set_option linter.unusedSimpArgs false
set_option maxHeartbeats 1000000

theorem rootFrom_spec (m : Nat) : ∀ (s r : Nat), r * r ≤ m → m < (r + 2 ^ s) * (r + 2 ^ s) → rootFrom m s r * rootFrom m s r ≤ m ∧ m < (rootFrom m s r + 1) * (rootFrom m s r + 1) := by
  intro s
  induction s with
  | zero => intro r h k; exact ⟨h, k⟩
  | succ s ih =>
    intro r h k
    by_cases c : (r + 2 ^ s) * (r + 2 ^ s) ≤ m
    · rw [← rootFrom_yes c]
      have e : r + 2 ^ (s + 1) = r + 2 ^ s + 2 ^ s := by rw [Nat.pow_succ]; omega
      rw [e] at k
      exact ih _ c k
    · rw [← rootFrom_no c]
      exact ih _ h (by omega)
theorem rootW_spec {m : Nat} (h : m < 340282366920938463463374607431768211456) : rootW m * rootW m ≤ m ∧ m < (rootW m + 1) * (rootW m + 1) :=
  rootFrom_spec m 64 0 (by omega) (by simpa using h)
theorem root_prod {a b : Int} (ha : In64 a) (hb : In64 b) (a0 : 0 ≤ a) (b0 : 0 ≤ b) : ((rootW (a * b).toNat : Nat) : Int) ≤ 9223372036854775807 := by
  unfold In64 at *
  have h : a * b ≤ 9223372036854775807 * 9223372036854775807 := Int.mul_le_mul ha.2 hb.2 b0 (by omega)
  obtain ⟨k, _⟩ := rootW_spec (m := (a * b).toNat) (by omega)
  by_cases c : rootW (a * b).toNat ≤ 9223372036854775807
  · omega
  · have : 9223372036854775808 * 9223372036854775808 ≤ rootW (a * b).toNat * rootW (a * b).toNat := Nat.mul_le_mul (by omega) (by omega)
    omega
end Go.Proofs.Ytmikjgbojknlnaa
namespace Go.Proofs.Ytmikjgbojknlnaa
open Go.RowKit
set_option linter.unusedVariables false
set_option maxRecDepth 100000
set_option linter.unusedSimpArgs false
set_option maxHeartbeats 1000000

/-- Is a number a fix? -/
def InF (v : Int) : Prop := -1152921504606846976 ≤ v ∧ v ≤ 1152921504606846976
instance (v : Int) : Decidable (InF v) := by unfold InF; infer_instance
def okF (v : Int) : Bool := decide (InF v)
theorem okF_yes {v : Int} (h : InF v) : okF v = true := decide_eq_true h
theorem okF_no {v : Int} (h : ¬ InF v) : okF v = false := decide_eq_false h
theorem okF_iff {v : Int} : okF v = true ↔ InF v := by unfold okF; simp
theorem inF_64 {v : Int} (h : InF v) : In64 v := by unfold InF at h; unfold In64; omega
/-- A number, if it exists and is a fix; and whether it does. -/
def resI (c : Bool) (v : Int) : Int := if c = true ∧ InF v then v else 0
def resB (c : Bool) (v : Int) : Bool := decide (c = true ∧ InF v)
theorem res_yes {c : Bool} {v : Int} (h : c = true) (k : InF v) : resI c v = v ∧ resB c v = true := ⟨if_pos ⟨h, k⟩, decide_eq_true ⟨h, k⟩⟩
theorem res_none {c : Bool} {v : Int} (h : c = false) : resI c v = 0 ∧ resB c v = false := by
  subst h; exact ⟨if_neg (by simp), decide_eq_false (by simp)⟩
theorem res_over {c : Bool} {v : Int} (k : ¬ InF v) : resI c v = 0 ∧ resB c v = false :=
  ⟨if_neg (fun h => k h.2), decide_eq_false (fun h => k h.2)⟩
theorem res_in (c : Bool) (v : Int) : InF (resI c v) := by
  unfold resI; split
  · rename_i h; exact h.2
  · unfold InF; omega
theorem intW_self {v : Int} (h : In64 v) : intW v = v := if_pos h
theorem okW_yes {v : Int} (h : In64 v) : okW v = true := decide_eq_true h
theorem okW_no {v : Int} (h : ¬ In64 v) : okW v = false := decide_eq_false h
/-- What is no int64 is no fix. -/
theorem res_word (v : Int) : resI (okW v) (intW v) = resI true v ∧ resB (okW v) (intW v) = resB true v := by
  by_cases h : In64 v
  · rw [okW_yes h, intW_self h]; exact ⟨rfl, rfl⟩
  · have k : ¬ InF v := fun k => h (inF_64 k)
    rw [okW_no h, (res_none rfl).1, (res_none rfl).2, (res_over k).1, (res_over k).2]; exact ⟨rfl, rfl⟩
/-- The same under a condition. -/
theorem res_word_if {c : Bool} (v : Int) : resI (c && okW v) (intW v) = resI c v ∧ resB (c && okW v) (intW v) = resB c v := by
  cases c
  · simp [resI, resB]
  · exact res_word v

/-- A quotient, rounded up. -/
def cei (v d : Int) : Int := -(-v / d)
def upW (v d : Int) : Int := if 1 ≤ d then cei v d else 0
theorem cei_exact {v d : Int} (d0 : 1 ≤ d) (h : v % d = 0) : cei v d = v / d := by
  have e := Int.mul_ediv_add_emod v d
  have k := div_known (v := -v) (d := d) (q := -(v / d)) (r := 0) (by rw [Int.mul_neg]; omega) (by omega) (by omega)
  unfold cei; omega
theorem cei_more {v d : Int} (d0 : 1 ≤ d) (h : ¬ v % d = 0) : cei v d = v / d + 1 := by
  have e := Int.mul_ediv_add_emod v d
  have r := rem_in (v := v) d0
  have k := div_known (v := -v) (d := d) (q := -(v / d) - 1) (r := d - v % d) (by rw [Int.mul_sub, Int.mul_neg]; omega) (by omega) (by omega)
  unfold cei; omega
/-- Next to a quotient with a rest, there is room for one more. -/
theorem quo_room {v d : Int} (hv : InW v) (d0 : 1 ≤ d) (h : ¬ v % d = 0) : InW (v / d + 1) := by
  have d2 : 2 ≤ d := by
    by_cases e : d = 1
    · subst e; exact absurd (Int.emod_one v) h
    · omega
  have e := Int.mul_ediv_add_emod v d
  have r := rem_in (v := v) d0
  unfold InW at *
  have a : v / d ≤ 85070591730234615865843651857942052864 := Int.ediv_le_of_le_mul (by omega) (by omega)
  have b : -85070591730234615865843651857942052865 ≤ v / d := Int.le_ediv_of_mul_le (by omega) (by omega)
  omega
theorem up_in {v d : Int} (hv : InW v) : InW (upW v d) := by
  unfold upW; split
  · rename_i d0
    by_cases h : v % d = 0
    · rw [cei_exact d0 h]; exact quo_in hv d0
    · rw [cei_more d0 h]; exact quo_room hv d0 h
  · unfold InW; omega
theorem quoW_in {v d : Int} (hv : InW v) : InW (quoW v d) := by
  unfold quoW; split
  · exact quo_in hv ‹_›
  · unfold InW; omega
/-- The test of the model whether a quotient is exact: both products agree modulo 2^64. -/
theorem same_mod {v d : Int} (d0 : 1 ≤ d) (d1 : In64 d) : wrap64 (v / d * d) = wrap64 v ↔ v % d = 0 := by
  have e := Int.mul_ediv_add_emod v d
  have r := rem_in (v := v) d0
  rw [wrap64_def, wrap64_def, Int.mul_comm]
  generalize v % d = m at *
  generalize v / d = q at *
  unfold In64 at d1
  constructor
  · intro h; omega
  · intro h; subst h; rw [← e]; simp
/-- The root of a fix in units, rounded down: of the product with 2^32. -/
def rtD (a : Int) : Int := if a < 0 then 0 else (rootW (a * 4294967296).toNat : Int)
/-- The same, rounded up. -/
def rtU (a : Int) : Int := if rtD a * rtD a = a * 4294967296 then rtD a else rtD a + 1
def okR (a : Int) : Bool := decide (0 ≤ a ∧ a ≤ 1152921504606846976)
theorem rtD_spec {a : Int} (a0 : 0 ≤ a) (a1 : a ≤ 1152921504606846976) : 0 ≤ rtD a ∧ rtD a ≤ 70368744177664 ∧ rtD a * rtD a ≤ a * 4294967296 ∧ a * 4294967296 < (rtD a + 1) * (rtD a + 1) := by
  have e : rtD a = (rootW (a * 4294967296).toNat : Int) := if_neg (by omega)
  have h := rootW_spec (m := (a * 4294967296).toNat) (by omega)
  rw [e]
  generalize rootW (a * 4294967296).toNat = r at h
  have h1 : ((r * r : Nat) : Int) ≤ a * 4294967296 := by have := h.1; omega
  have h2 : a * 4294967296 < (((r + 1) * (r + 1) : Nat) : Int) := by have := h.2; omega
  rw [Int.natCast_mul] at h1 h2
  refine ⟨by omega, ?_, h1, by simpa using h2⟩
  by_cases c : (r : Int) ≤ 70368744177664
  · exact c
  · exfalso
    have c1 : (70368744177665 : Int) ≤ r := by omega
    have := Int.mul_le_mul c1 c1 (by omega) (by omega)
    omega
theorem rtD_in {a : Int} (a1 : a ≤ 1152921504606846976) : 0 ≤ rtD a ∧ rtD a ≤ 70368744177664 := by
  by_cases s : a < 0
  · have : rtD a = 0 := if_pos s
    omega
  · have := rtD_spec (a := a) (by omega) a1; omega
theorem rtU_in {a : Int} (a1 : a ≤ 1152921504606846976) : 0 ≤ rtU a ∧ rtU a ≤ 70368744177665 := by
  have := rtD_in a1
  unfold rtU; split <;> omega
/-- The model's test whether a root is exact. -/
theorem root_test {a : Int} (a0 : 0 ≤ a) (a1 : a ≤ 1152921504606846976) : (rtD a * rtD a / 4294967296 = a ∧ rtD a * rtD a % 4294967296 = 0) ↔ rtD a * rtD a = a * 4294967296 := by
  constructor
  · intro h; omega
  · intro h; omega
theorem and_mask32 (n : Int) : bits .and .i64 n 4294967295 = n % 4294967296 := by
  have h127 : (BitVec.ofInt 64 4294967295).toNat = 2 ^ 32 - 1 := by decide
  have key : (BitVec.ofInt 64 n &&& BitVec.ofInt 64 4294967295).toNat = (n % ((2 ^ 64 : Nat) : Int)).toNat % 2 ^ 32 := by
    rw [BitVec.toNat_and, BitVec.toNat_ofInt, h127, Nat.and_two_pow_sub_one_eq_mod]
  show IntKind.i64.wrap ((BitVec.ofInt 64 n &&& BitVec.ofInt 64 4294967295).toNat : Nat) = n % 4294967296
  rw [key, IntKind.wrap_i64]
  omega
/-- Are two numbers fixes; and is the second one a divisor? -/
def mdc (a b : Int) : Bool := decide (InF a ∧ InF b)
def dvc (a b : Int) : Bool := decide (InF a ∧ InF b ∧ ¬ b = 0)
/-- The quotient of two fixes in units, rounded down and up. -/
def dvD (a b : Int) : Int := if b < 0 then -a * 4294967296 / -b else a * 4294967296 / b
def dvU (a b : Int) : Int := if b < 0 then cei (-a * 4294967296) (-b) else cei (a * 4294967296) b
theorem mul_fix {a b : Int} (ha : InF a) (hb : InF b) : InW (a * b) := mul_in (inF_64 ha) (inF_64 hb)
theorem neg_fix {a : Int} (h : InF a) : InF (-a) := by unfold InF at *; omega
theorem neg_fix_iff {a : Int} : InF (-a) ↔ InF a := by unfold InF; omega
theorem shr_unit (v : Int) : shrW v 32 = v / 4294967296 := by
  unfold shrW; rw [if_pos (by omega)]; rfl
/-- The opposite of a result is the result for the opposite. -/
theorem res_neg (c : Bool) (v : Int) : -resI c v = resI c (-v) ∧ resB c v = resB c (-v) := by
  unfold resI resB
  by_cases h : c = true ∧ InF v
  · have k : c = true ∧ InF (-v) := ⟨h.1, neg_fix h.2⟩
    rw [if_pos h, if_pos k]; exact ⟨rfl, by rw [decide_eq_true h, decide_eq_true k]⟩
  · have k : ¬ (c = true ∧ InF (-v)) := fun k => h ⟨k.1, neg_fix_iff.1 k.2⟩
    rw [if_neg h, if_neg k]; exact ⟨rfl, by rw [decide_eq_false h, decide_eq_false k]⟩
theorem mdc_neg (a b : Int) : mdc (-a) b = mdc a b := by
  unfold mdc; rw [Bool.eq_iff_iff]; simp [neg_fix_iff]
theorem dvc_neg (a b : Int) : dvc (-a) b = dvc a b := by
  unfold dvc; rw [Bool.eq_iff_iff]; simp [neg_fix_iff]
theorem mul_up_down (a b : Int) : -(-a * b / 4294967296) = cei (a * b) 4294967296 := by
  unfold cei; rw [Int.neg_mul]
theorem div_up_down (a b : Int) : -dvD (-a) b = dvU a b := by
  unfold dvD dvU cei
  split
  · rw [Int.neg_neg, Int.neg_mul, Int.neg_neg]
  · rw [Int.neg_mul]
end Go.Proofs.Ytmikjgbojknlnaa
namespace Go.Proofs.Ytmikjgbojknlnaa
open Go.RowKit
set_option linter.unusedVariables false
set_option maxRecDepth 100000
set_option linter.unusedSimpArgs false
set_option maxHeartbeats 1000000

/-- An interval: its lower and its upper end. -/
abbrev Iv := Int × Int
/-- Is an interval bounded? -/
def Bnd (x : Iv) : Prop := -1152921504606846976 < x.1 ∧ x.1 ≤ x.2 ∧ x.2 < 1152921504606846976
instance (x : Iv) : Decidable (Bnd x) := by unfold Bnd; infer_instance
def bnd (x : Iv) : Bool := decide (Bnd x)
def whl : Iv := (-1152921504606846976, 1152921504606846976)
theorem bnd_yes {x : Iv} (h : Bnd x) : bnd x = true := decide_eq_true h
theorem bnd_no {x : Iv} (h : ¬ Bnd x) : bnd x = false := decide_eq_false h
theorem whl_not : ¬ Bnd whl := by unfold Bnd whl; simp
theorem bnd_whl : bnd whl = false := bnd_no whl_not
/-- What stands for an interval whatever its form. -/
def can (x : Iv) : Iv := if Bnd x then x else whl
theorem can_yes {x : Iv} (h : Bnd x) : can x = x := if_pos h
theorem can_no {x : Iv} (h : ¬ Bnd x) : can x = whl := if_neg h
theorem can_can (x : Iv) : can (can x) = can x := by
  by_cases h : Bnd x
  · rw [can_yes h, can_yes h]
  · rw [can_no h, can_no whl_not]
theorem bnd_can (x : Iv) : bnd (can x) = bnd x := by
  by_cases h : Bnd x
  · rw [can_yes h]
  · rw [can_no h, bnd_whl, bnd_no h]
/-- The interval with two ends, if they are known. -/
def kn (c : Bool) (x : Iv) : Iv := if c = true then can x else whl
theorem kn_yes {c : Bool} {x : Iv} (h : c = true) : kn c x = can x := if_pos h
theorem kn_no {c : Bool} {x : Iv} (h : c = false) : kn c x = whl := if_neg (by simp [h])
/-- What every result is. -/
def InI (x : Iv) : Prop := -1152921504606846976 ≤ x.1 ∧ x.1 ≤ x.2 ∧ x.2 ≤ 1152921504606846976
theorem can_in (x : Iv) : InI (can x) := by
  by_cases h : Bnd x
  · rw [can_yes h]; unfold Bnd at h; unfold InI; omega
  · rw [can_no h]; unfold InI whl; simp
theorem kn_in (c : Bool) (x : Iv) : InI (kn c x) := by
  cases c
  · rw [kn_no rfl]; unfold InI whl; simp
  · rw [kn_yes rfl]; exact can_in x
theorem whl_in : InI whl := by unfold InI whl; simp
/-- Both ends are int64. -/
def Ok (x : Iv) : Prop := In64 x.1 ∧ In64 x.2
theorem inI_ok {x : Iv} (h : InI x) : Ok x := by unfold InI at h; unfold Ok In64; omega
/-- A result is bounded or whole. -/
def Res (x : Iv) : Prop := can x = x
theorem res_can (x : Iv) : Res (can x) := can_can x
theorem res_kn (c : Bool) (x : Iv) : Res (kn c x) := by
  cases c
  · rw [kn_no rfl]; exact can_no whl_not
  · rw [kn_yes rfl]; exact can_can x
theorem res_whl : Res whl := can_no whl_not
theorem res_in' {x : Iv} (h : Res x) : InI x := by rw [← h]; exact can_in x
theorem res_ok {x : Iv} (h : Res x) : Ok x := inI_ok (res_in' h)
theorem res_not {x : Iv} (h : Res x) (k : ¬ Bnd x) : x = whl := by rw [← h]; exact can_no k

def addI (x y : Iv) : Iv := kn (bnd x && bnd y) (x.1 + y.1, x.2 + y.2)
def subI (x y : Iv) : Iv := kn (bnd x && bnd y) (x.1 - y.2, x.2 - y.1)
def negI (x : Iv) : Iv := kn (bnd x) (-x.2, -x.1)
/-- The interval of a result that is rounded down and up. -/
def rnd (c : Bool) (l h : Int) : Iv := kn (resB c l && resB c h) (resI c l, resI c h)
def flr (n d : Int) : Iv := rnd (okD d) (quoW (n * 4294967296) d) (upW (n * 4294967296) d)
-- (floor and ceiling of a quotient; the name stands for both roundings)
def flq (n d : Int) : Iv := kn (resB (okD d) (quoW (n * 4294967296) d) && resB (okD d) (upW (n * 4294967296) d)) (resI (okD d) (quoW (n * 4294967296) d), resI (okD d) (upW (n * 4294967296) d))
def rdM (a b : Int) : Iv := kn (resB (mdc a b) (a * b / 4294967296) && resB (mdc a b) (cei (a * b) 4294967296)) (resI (mdc a b) (a * b / 4294967296), resI (mdc a b) (cei (a * b) 4294967296))
def rdD (a b : Int) : Iv := kn (resB (dvc a b) (dvD a b) && resB (dvc a b) (dvU a b)) (resI (dvc a b) (dvD a b), resI (dvc a b) (dvU a b))
def quoI (n d : Int) : Iv := if d < 0 then (if n = -9223372036854775808 ∨ d = -9223372036854775808 then whl else flq (-n) (-d)) else flq n d
def intI (n : Int) : Iv := quoI n 1
def minI (x y : Iv) : Iv := kn (bnd x && bnd y) (min x.1 y.1, min x.2 y.2)
def maxI (x y : Iv) : Iv := kn (bnd x && bnd y) (max x.1 y.1, max x.2 y.2)
def hulI (x y : Iv) : Iv := kn (bnd x && bnd y) (min x.1 y.1, max x.2 y.2)
def halfI (x : Iv) : Iv := kn (bnd x) (x.1 / 2, (x.2 + 1) / 2)
def absI (x : Iv) : Iv := maxI (intI 0) (maxI x (negI x))
/-- The hull of four intervals. -/
def hul4 (a b c d : Iv) : Iv := kn (bnd a && bnd b && bnd c && bnd d) (min (min (min a.1 b.1) c.1) d.1, max (max (max a.2 b.2) c.2) d.2)
def mulI (x y : Iv) : Iv := if Bnd x ∧ Bnd y then hul4 (rdM x.1 y.1) (rdM x.1 y.2) (rdM x.2 y.1) (rdM x.2 y.2) else whl
def hasI (x : Iv) (n : Int) : Bool := decide (¬ Bnd x ∨ (x.1 ≤ n ∧ n ≤ x.2))
def divI (x y : Iv) : Iv := if Bnd x ∧ Bnd y ∧ ¬ (y.1 ≤ 0 ∧ 0 ≤ y.2) then hul4 (rdD x.1 y.1) (rdD x.1 y.2) (rdD x.2 y.1) (rdD x.2 y.2) else whl
def sqrI (x : Iv) : Iv := kn (resB (mdc (absI x).1 (absI x).1) ((absI x).1 * (absI x).1 / 4294967296) && resB (mdc (absI x).2 (absI x).2) (cei ((absI x).2 * (absI x).2) 4294967296) && bnd x)
  (resI (mdc (absI x).1 (absI x).1) ((absI x).1 * (absI x).1 / 4294967296), resI (mdc (absI x).2 (absI x).2) (cei ((absI x).2 * (absI x).2) 4294967296))
def sqrtI (x : Iv) : Iv := kn (resB (okR x.1) (rtD x.1) && resB (okR x.2) (rtU x.2) && bnd x) (resI (okR x.1) (rtD x.1), resI (okR x.2) (rtU x.2))
def olpI (x y : Iv) : Bool := decide ((can x).1 ≤ (can y).2 ∧ (can y).1 ≤ (can x).2)
def metI (x y : Iv) : Iv := if olpI x y = true then (max (can x).1 (can y).1, min (can x).2 (can y).2) else (0, 0)
def insI (x y : Iv) : Bool := decide ((can y).1 ≤ (can x).1 ∧ (can x).2 ≤ (can y).2)
def lesI (x y : Iv) : Int := if Bnd x ∧ Bnd y then (if x.2 < y.1 then 1 else if y.2 ≤ x.1 then 0 else 2) else 2
def widI (x : Iv) : Int := if Bnd x then x.2 - x.1 else -1
def midI (x : Iv) : Int := if Bnd x then (x.1 + x.2) / 2 else 0
theorem mkI_kn (x : Iv) : kn true x = can x := rfl
theorem kn_bnd {x : Iv} (h : Bnd x) : kn true x = x := can_yes h
/-- Whole numbers: an integer is a quotient by 1. -/
theorem cei_one (v : Int) : cei v 1 = v := by unfold cei; omega
theorem intI_flq (n : Int) : intI n = flq n 1 := by unfold intI quoI; rw [if_neg (by omega)]
theorem flq_one (n : Int) : flq n 1 = kn (decide (InF (n * 4294967296))) (n * 4294967296, n * 4294967296) := by
  unfold flq quoW upW
  rw [if_pos (by omega), if_pos (by omega), cei_one, Int.ediv_one]
  have o : okD 1 = true := rfl
  rw [o]
  by_cases h : InF (n * 4294967296)
  · rw [(res_yes rfl h).1, (res_yes rfl h).2, decide_eq_true h]; rfl
  · rw [(res_over h).1, (res_over h).2, decide_eq_false h]; rfl
theorem intI_yes {n : Int} (h0 : -268435455 ≤ n) (h1 : n ≤ 268435455) : intI n = (n * 4294967296, n * 4294967296) := by
  rw [intI_flq, flq_one, decide_eq_true (by unfold InF; omega), kn_yes rfl, can_yes (by unfold Bnd; simp; omega)]
theorem intI_no {n : Int} (h : n < -268435455 ∨ 268435455 < n) : intI n = whl := by
  rw [intI_flq, flq_one]
  have : ¬ Bnd (n * 4294967296, n * 4294967296) := by unfold Bnd; simp; omega
  cases decide (InF (n * 4294967296))
  · exact kn_no rfl
  · rw [kn_yes rfl, can_no this]
/-- The least and the greatest absolute value. -/
def absN (x : Iv) : Int := if x.1 ≤ 0 ∧ 0 ≤ x.2 then 0 else min (max x.1 (-x.1)) (max x.2 (-x.2))
def absF (x : Iv) : Int := max (max x.1 (-x.1)) (max x.2 (-x.2))
theorem negI_yes {x : Iv} (h : Bnd x) : negI x = (-x.2, -x.1) := by
  unfold negI; rw [kn_yes (bnd_yes h), can_yes (by unfold Bnd at *; simp; omega)]
theorem abs_ends {x : Iv} (h : Bnd x) : Bnd (absN x, absF x) ∧ 0 ≤ absN x := by
  unfold Bnd absN absF at *
  simp only
  split <;> omega
theorem absI_yes {x : Iv} (h : Bnd x) : absI x = (absN x, absF x) := by
  have hn := negI_yes h
  have bn : Bnd (negI x) := by rw [hn]; unfold Bnd at *; simp; omega
  unfold absI
  rw [intI_yes (by omega) (by omega)]
  have e1 : maxI x (negI x) = (max x.1 (-x.2), max x.2 (-x.1)) := by
    unfold maxI
    rw [bnd_yes h, bnd_yes bn, hn, Bool.and_self, kn_yes rfl, can_yes (by unfold Bnd at *; simp only; omega)]
  rw [e1]
  unfold maxI
  have b2 : Bnd (max x.1 (-x.2), max x.2 (-x.1)) := by unfold Bnd at *; simp only; omega
  have b0 : Bnd (0 * 4294967296, 0 * 4294967296) := by unfold Bnd; simp
  rw [bnd_yes b2, bnd_yes b0, Bool.and_self, kn_yes rfl, can_yes (by unfold Bnd at *; simp only; omega)]
  unfold absN absF
  simp only [Prod.mk.injEq]
  unfold Bnd at h
  constructor
  · split <;> omega
  · omega
theorem absI_no {x : Iv} (h : ¬ Bnd x) : absI x = whl := by
  unfold absI
  have e : negI x = whl := kn_no (bnd_no h)
  have e1 : maxI x (negI x) = whl := by unfold maxI; rw [bnd_no h]; exact kn_no rfl
  rw [e1]; unfold maxI; rw [bnd_whl]; exact kn_no (by simp)
theorem absI_res (x : Iv) : Res (absI x) := res_kn _ _
theorem dbl_add {x : Iv} : addI x x = kn (bnd x) (2 * x.1, 2 * x.2) := by
  unfold addI; rw [Bool.and_self]
  have a : x.1 + x.1 = 2 * x.1 := by omega
  have b : x.2 + x.2 = 2 * x.2 := by omega
  rw [a, b]
theorem sqrI_yes {x : Iv} (h : Bnd x) : sqrI x = kn (resB (mdc (absN x) (absN x)) (absN x * absN x / 4294967296) && resB (mdc (absF x) (absF x)) (cei (absF x * absF x) 4294967296))
    (resI (mdc (absN x) (absN x)) (absN x * absN x / 4294967296), resI (mdc (absF x) (absF x)) (cei (absF x * absF x) 4294967296)) := by
  unfold sqrI; rw [absI_yes h, bnd_yes h, Bool.and_true]
theorem sqrI_no {x : Iv} (h : ¬ Bnd x) : sqrI x = whl := by
  unfold sqrI; rw [bnd_no h, Bool.and_false]; exact kn_no rfl
theorem sqrtI_yes {x : Iv} (h : Bnd x) (s : 0 ≤ x.1) : sqrtI x = can (rtD x.1, rtU x.2) := by
  unfold Bnd at h
  unfold sqrtI
  have f1 : InF (rtD x.1) := by have := rtD_in (a := x.1) (by omega); unfold InF; omega
  have f2 : InF (rtU x.2) := by have := rtU_in (a := x.2) (by omega); unfold InF; omega
  have o1 : okR x.1 = true := decide_eq_true (by omega)
  have o2 : okR x.2 = true := decide_eq_true (by omega)
  rw [(res_yes o1 f1).1, (res_yes o1 f1).2, (res_yes o2 f2).1, (res_yes o2 f2).2, bnd_yes h]; rfl
theorem sqrtI_no {x : Iv} (h : ¬ Bnd x ∨ x.1 < 0) : sqrtI x = whl := by
  unfold sqrtI
  rcases h with h | h
  · rw [bnd_no h, Bool.and_false]; exact kn_no rfl
  · have o1 : okR x.1 = false := decide_eq_false (by omega)
    rw [(res_none o1).2]; exact kn_no rfl
theorem cei_le {v d : Int} (d0 : 1 ≤ d) : v / d ≤ cei v d := by
  by_cases r : v % d = 0
  · rw [cei_exact d0 r]; omega
  · rw [cei_more d0 r]; omega
/-- Four roundings, one after the other, as the model makes them. -/
theorem hul4_all {a b c d : Iv} (h : Bnd a ∧ Bnd b ∧ Bnd c ∧ Bnd d) : hul4 a b c d = can (min (min (min a.1 b.1) c.1) d.1, max (max (max a.2 b.2) c.2) d.2) := by
  unfold hul4; rw [bnd_yes h.1, bnd_yes h.2.1, bnd_yes h.2.2.1, bnd_yes h.2.2.2]; rfl
theorem hul4_none {a b c d : Iv} (h : ¬ (Bnd a ∧ Bnd b ∧ Bnd c ∧ Bnd d)) : hul4 a b c d = whl := by
  unfold hul4 bnd
  apply kn_no
  rw [Bool.eq_false_iff]; intro k; apply h; simpa [and_assoc] using k
/-- A pair of roundings in the right order. -/
theorem hul4_raw {a b c d : Iv} (ha : a.1 ≤ a.2) (hb : b.1 ≤ b.2) (hc : c.1 ≤ c.2) (hd : d.1 ≤ d.2) :
    hul4 (can a) (can b) (can c) (can d) = can (min (min (min a.1 b.1) c.1) d.1, max (max (max a.2 b.2) c.2) d.2) := by
  by_cases h : Bnd a ∧ Bnd b ∧ Bnd c ∧ Bnd d
  · rw [can_yes h.1, can_yes h.2.1, can_yes h.2.2.1, can_yes h.2.2.2, hul4_all h]
  · rw [hul4_none (by
      intro k; apply h
      refine ⟨?_, ?_, ?_, ?_⟩
      · by_cases q : Bnd a
        · exact q
        · rw [can_no q] at k; exact absurd k.1 whl_not
      · by_cases q : Bnd b
        · exact q
        · rw [can_no q] at k; exact absurd k.2.1 whl_not
      · by_cases q : Bnd c
        · exact q
        · rw [can_no q] at k; exact absurd k.2.2.1 whl_not
      · by_cases q : Bnd d
        · exact q
        · rw [can_no q] at k; exact absurd k.2.2.2 whl_not)]
    rw [can_no]
    intro k; apply h
    unfold Bnd at *
    simp only at k
    omega
theorem hul4_lost {a b c d : Iv} (h : a = whl ∨ b = whl ∨ c = whl ∨ d = whl) : hul4 a b c d = whl := by
  apply hul4_none
  intro k
  rcases h with h | h | h | h
  · rw [h] at k; exact whl_not k.1
  · rw [h] at k; exact whl_not k.2.1
  · rw [h] at k; exact whl_not k.2.2.1
  · rw [h] at k; exact whl_not k.2.2.2
theorem rdM_no {a b : Int} (h : ¬ (resB (mdc a b) (a * b / 4294967296) = true ∧ resB (mdc a b) (cei (a * b) 4294967296) = true)) : rdM a b = whl := by
  apply kn_no; rw [Bool.eq_false_iff]; intro k; apply h; simpa using k
theorem rdM_yes {a b : Int} (h : resB (mdc a b) (a * b / 4294967296) = true) (k : resB (mdc a b) (cei (a * b) 4294967296) = true) :
    rdM a b = can (resI (mdc a b) (a * b / 4294967296), resI (mdc a b) (cei (a * b) 4294967296)) ∧ resI (mdc a b) (a * b / 4294967296) ≤ resI (mdc a b) (cei (a * b) 4294967296) := by
  refine ⟨kn_yes (by rw [h, k]; rfl), ?_⟩
  have h' := of_decide_eq_true h
  have k' := of_decide_eq_true k
  unfold resI
  rw [if_pos h', if_pos k']
  exact cei_le (by omega)
theorem rdD_no {a b : Int} (h : ¬ (resB (dvc a b) (dvD a b) = true ∧ resB (dvc a b) (dvU a b) = true)) : rdD a b = whl := by
  apply kn_no; rw [Bool.eq_false_iff]; intro k; apply h; simpa using k
theorem dv_le {a b : Int} (h : dvc a b = true) : dvD a b ≤ dvU a b := by
  have z := (of_decide_eq_true h).2.2
  unfold dvD dvU
  split
  · exact cei_le (by omega)
  · exact cei_le (by omega)
theorem rdD_yes {a b : Int} (h : resB (dvc a b) (dvD a b) = true) (k : resB (dvc a b) (dvU a b) = true) :
    rdD a b = can (resI (dvc a b) (dvD a b), resI (dvc a b) (dvU a b)) ∧ resI (dvc a b) (dvD a b) ≤ resI (dvc a b) (dvU a b) := by
  refine ⟨kn_yes (by rw [h, k]; rfl), ?_⟩
  have h' := of_decide_eq_true h
  have k' := of_decide_eq_true k
  unfold resI
  rw [if_pos h', if_pos k']
  exact dv_le h'.1
end Go.Proofs.Ytmikjgbojknlnaa
namespace Go.Proofs.Ytmikjgbojknlnaa
open Go.RowKit
set_option linter.unusedVariables false
set_option maxRecDepth 100000
set_option linter.unusedSimpArgs false
set_option maxHeartbeats 1000000

theorem kn_lost {c d : Bool} {l h : Int} {R : Iv} (e : R = kn (c && d) (l, h)) (k : (c && d) = false) : R = whl := by rw [e]; exact kn_no k
theorem four_all {R1 R2 R3 R4 : Iv} {l1 h1 l2 h2 l3 h3 l4 h4 : Int} (e1 : R1 = kn (true && true) (l1, h1)) (e2 : R2 = kn (true && true) (l2, h2)) (e3 : R3 = kn (true && true) (l3, h3)) (e4 : R4 = kn (true && true) (l4, h4))
    (o1 : l1 ≤ h1) (o2 : l2 ≤ h2) (o3 : l3 ≤ h3) (o4 : l4 ≤ h4) (f1 : InF l1 ∧ InF h1) (f2 : InF l2 ∧ InF h2) (f3 : InF l3 ∧ InF h3) (f4 : InF l4 ∧ InF h4) :
    hul4 R1 R2 R3 R4 = can (min 1152921504606846976 (min l1 (min l2 (min l3 l4))), max (-1152921504606846976) (max h1 (max h2 (max h3 h4)))) := by
  rw [e1, e2, e3, e4, Bool.and_self, kn_yes rfl, kn_yes rfl, kn_yes rfl, kn_yes rfl, hul4_raw o1 o2 o3 o4]
  unfold InF at *
  have a : min (min (min l1 l2) l3) l4 = min 1152921504606846976 (min l1 (min l2 (min l3 l4))) := by omega
  have b : max (max (max h1 h2) h3) h4 = max (-1152921504606846976) (max h1 (max h2 (max h3 h4))) := by omega
  simp only [a, b]
theorem mul_def {x y : Iv} (h1 : Bnd x) (h2 : Bnd y) : mulI x y = hul4 (rdM x.1 y.1) (rdM x.1 y.2) (rdM x.2 y.1) (rdM x.2 y.2) := if_pos ⟨h1, h2⟩
theorem div_def {x y : Iv} (h1 : Bnd x) (h2 : Bnd y) (z : ¬ (y.1 ≤ 0 ∧ 0 ≤ y.2)) : divI x y = hul4 (rdD x.1 y.1) (rdD x.1 y.2) (rdD x.2 y.1) (rdD x.2 y.2) := if_pos ⟨h1, h2, z⟩
/-- The model's common part of two bounded intervals. -/
theorem meet_both {x y : Iv} (h1 : Bnd x) (h2 : Bnd y) : (olpI x y = true ↔ max x.1 y.1 ≤ min x.2 y.2) := by
  unfold olpI
  rw [can_yes h1, can_yes h2, decide_eq_true_iff]
  unfold Bnd at *
  omega
theorem meet_yes {x y : Iv} (h1 : Bnd x) (h2 : Bnd y) (k : max x.1 y.1 ≤ min x.2 y.2) : metI x y = (max x.1 y.1, min x.2 y.2) ∧ olpI x y = true := by
  have o := (meet_both h1 h2).2 k
  refine ⟨?_, o⟩
  unfold metI
  rw [if_pos o, can_yes h1, can_yes h2]
theorem meet_no {x y : Iv} (h1 : Bnd x) (h2 : Bnd y) (k : ¬ max x.1 y.1 ≤ min x.2 y.2) : metI x y = (0, 0) ∧ olpI x y = false := by
  have o : olpI x y = false := by
    cases e : olpI x y
    · rfl
    · exact absurd ((meet_both h1 h2).1 e) k
  refine ⟨?_, o⟩
  unfold metI
  rw [if_neg (by simp [o])]
theorem meet_none {x y : Iv} (h1 : ¬ Bnd x) (h2 : ¬ Bnd y) : metI x y = whl ∧ olpI x y = true := by
  have o : olpI x y = true := by unfold olpI; rw [can_no h1, can_no h2]; decide
  refine ⟨?_, o⟩
  unfold metI
  rw [if_pos o, can_no h1, can_no h2]; rfl
theorem meet_left {x y : Iv} (h1 : ¬ Bnd x) (h2 : Bnd y) : metI x y = y ∧ olpI x y = true := by
  have o : olpI x y = true := by
    unfold olpI; rw [can_no h1, can_yes h2, decide_eq_true_iff]; unfold Bnd at h2; unfold whl; simp only; omega
  refine ⟨?_, o⟩
  unfold metI
  rw [if_pos o, can_no h1, can_yes h2]
  unfold Bnd at h2; unfold whl
  have a : max (-1152921504606846976) y.1 = y.1 := by omega
  have b : min 1152921504606846976 y.2 = y.2 := by omega
  simp only [a, b]
theorem meet_right {x y : Iv} (h1 : Bnd x) (h2 : ¬ Bnd y) : metI x y = x ∧ olpI x y = true := by
  have o : olpI x y = true := by
    unfold olpI; rw [can_yes h1, can_no h2, decide_eq_true_iff]; unfold Bnd at h1; unfold whl; simp only; omega
  refine ⟨?_, o⟩
  unfold metI
  rw [if_pos o, can_yes h1, can_no h2]
  unfold Bnd at h1; unfold whl
  have a : max x.1 (-1152921504606846976) = x.1 := by omega
  have b : min x.2 1152921504606846976 = x.2 := by omega
  simp only [a, b]
theorem ins_any {x y : Iv} (h2 : ¬ Bnd y) : insI x y = true := by
  unfold insI; rw [can_no h2, decide_eq_true_iff]
  have := can_in x; unfold InI at this; unfold whl; simp only; omega
theorem ins_both {x y : Iv} (h1 : Bnd x) (h2 : Bnd y) : insI x y = decide (y.1 ≤ x.1 ∧ x.2 ≤ y.2) := by
  unfold insI; rw [can_yes h1, can_yes h2]
theorem ins_no {x y : Iv} (h1 : ¬ Bnd x) (h2 : Bnd y) : insI x y = false := by
  unfold insI; rw [can_no h1, can_yes h2]
  apply decide_eq_false
  unfold Bnd at h2; unfold whl; simp only; omega
end Go.Proofs.Ytmikjgbojknlnaa
