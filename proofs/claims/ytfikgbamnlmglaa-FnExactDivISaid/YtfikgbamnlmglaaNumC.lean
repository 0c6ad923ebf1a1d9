/- Plain arithmetic of products of wide integers' halves. Conditions: as each lemma says. -/
import Derived.Test.YtfikgbamnlmglaaNumB
import Derived.Shelf.Bits.Mul64
namespace Go.Proofs.Ytfikgbamnlmglaa
open Go.RowKit
set_option linter.unusedVariables false
set_option maxRecDepth 100000

theorem natAbs_le64 {a : Int} (h : In64 a) : a.natAbs ≤ 9223372036854775808 := by unfold In64 at h; omega
/-- The product of two int64 is far within a Wide. -/
theorem mul_small {a b : Int} (ha : In64 a) (hb : In64 b) :
    -85070591730234615865843651857942052864 ≤ a * b ∧ a * b ≤ 85070591730234615865843651857942052864 := by
  have h : (a * b).natAbs ≤ 9223372036854775808 * 9223372036854775808 := by
    rw [Int.natAbs_mul]; exact Nat.mul_le_mul (natAbs_le64 ha) (natAbs_le64 hb)
  omega
theorem mul_in {a b : Int} (ha : In64 a) (hb : In64 b) : InW (a * b) := by
  have := mul_small ha hb; unfold InW; omega
theorem abs_mul_same {a b : Int} (h : (a < 0) = (b < 0)) : (a.natAbs : Int) * (b.natAbs : Int) = a * b := by
  by_cases ha : a < 0
  · have hb : b < 0 := by rw [← h]; exact ha
    have e1 : (a.natAbs : Int) = -a := by omega
    have e2 : (b.natAbs : Int) = -b := by omega
    rw [e1, e2, Int.neg_mul_neg]
  · have hb : ¬ b < 0 := by rw [← h]; exact ha
    have e1 : (a.natAbs : Int) = a := by omega
    have e2 : (b.natAbs : Int) = b := by omega
    rw [e1, e2]
theorem abs_mul_other {a b : Int} (h : ¬ (a < 0) = (b < 0)) : (a.natAbs : Int) * (b.natAbs : Int) = -(a * b) := by
  by_cases ha : a < 0
  · have hb : ¬ b < 0 := fun hb => h (by simp [ha, hb])
    have e1 : (a.natAbs : Int) = -a := by omega
    have e2 : (b.natAbs : Int) = b := by omega
    rw [e1, e2, Int.neg_mul]
  · have hb : b < 0 := by
      by_cases hb : b < 0
      · exact hb
      · exact absurd (by simp [ha, hb]) h
    have e1 : (a.natAbs : Int) = a := by omega
    have e2 : (b.natAbs : Int) = -b := by omega
    rw [e1, e2, Int.mul_neg]
/-- The product of the sizes. -/
def absMul (a b : Int) : Int := (a.natAbs : Int) * (b.natAbs : Int)
theorem absMul_in {a b : Int} (ha : In64 a) (hb : In64 b) : 0 ≤ absMul a b ∧ absMul a b ≤ 85070591730234615865843651857942052864 := by
  have h : a.natAbs * b.natAbs ≤ 9223372036854775808 * 9223372036854775808 := Nat.mul_le_mul (natAbs_le64 ha) (natAbs_le64 hb)
  unfold absMul
  rw [← Int.natCast_mul]
  omega
theorem absMul_inW {a b : Int} (ha : In64 a) (hb : In64 b) : InW (absMul a b) := by
  have := absMul_in ha hb; unfold InW; omega
theorem absMul_hi {a b : Int} (ha : In64 a) (hb : In64 b) : wrap64 (hiW (absMul a b)) = hiW (absMul a b) := by
  have := absMul_in ha hb
  apply wrap64_self; unfold In64 hiW B64; omega
theorem neg_absMul {a b : Int} (ha : In64 a) (hb : In64 b) (h : ¬ (a < 0) = (b < 0)) : negW (absMul a b) = a * b := by
  have k := absMul_in ha hb
  have e : absMul a b = -(a * b) := abs_mul_other h
  unfold negW
  rw [if_neg (by omega), e, Int.neg_neg]

/-- The product of the low halves of two int64, as a number: four cases of signs. -/
theorem lo_mul_pp {a b : Int} (ha : In64 a) (hb : In64 b) (sa : ¬ a < 0) (sb : ¬ b < 0) : loW a * loW b = a * b := by
  rw [loW_self (by unfold In64 InU at *; omega), loW_self (by unfold In64 InU at *; omega)]
theorem lo_neg {a : Int} (ha : In64 a) (sa : a < 0) : loW a = a + 18446744073709551616 := by
  unfold In64 at ha; unfold loW B64; omega
theorem lo_pos {a : Int} (ha : In64 a) (sa : ¬ a < 0) : loW a = a := by
  unfold In64 at ha; unfold loW B64; omega
theorem mulhi_pp {a b : Int} (ha : In64 a) (hb : In64 b) (sa : ¬ a < 0) (sb : ¬ b < 0) :
    wrap64 (hiW (loW a * loW b)) = hiW (a * b) ∧ loW (loW a * loW b) = loW (a * b) := by
  rw [lo_pos ha sa, lo_pos hb sb]
  have m := mul_small ha hb
  generalize a * b = p at *
  rw [wrap64_def]; unfold hiW loW B64; omega
theorem mulhi_np {a b : Int} (ha : In64 a) (hb : In64 b) (sa : a < 0) (sb : ¬ b < 0) :
    wrap64 (loW (hiW (loW a * loW b) - loW b)) = hiW (a * b) ∧ loW (loW a * loW b) = loW (a * b) := by
  rw [lo_neg ha sa, lo_pos hb sb, Int.add_mul]
  have m := mul_small ha hb
  unfold In64 at ha hb
  generalize a * b = p at *
  rw [wrap64_def]; unfold hiW loW B64; omega
theorem mulhi_pn {a b : Int} (ha : In64 a) (hb : In64 b) (sa : ¬ a < 0) (sb : b < 0) :
    wrap64 (loW (hiW (loW a * loW b) - loW a)) = hiW (a * b) ∧ loW (loW a * loW b) = loW (a * b) := by
  rw [lo_pos ha sa, lo_neg hb sb, Int.mul_add]
  have m := mul_small ha hb
  unfold In64 at ha hb
  generalize a * b = p at *
  rw [wrap64_def]; unfold hiW loW B64; omega
theorem mulhi_nn {a b : Int} (ha : In64 a) (hb : In64 b) (sa : a < 0) (sb : b < 0) :
    wrap64 (loW (loW (hiW (loW a * loW b) - loW b) - loW a)) = hiW (a * b) ∧ loW (loW a * loW b) = loW (a * b) := by
  rw [lo_neg ha sa, lo_neg hb sb, Int.add_mul, Int.mul_add]
  have m := mul_small ha hb
  unfold In64 at ha hb
  generalize a * b = p at *
  rw [wrap64_def]; unfold hiW loW B64; omega
end Go.Proofs.Ytfikgbamnlmglaa
