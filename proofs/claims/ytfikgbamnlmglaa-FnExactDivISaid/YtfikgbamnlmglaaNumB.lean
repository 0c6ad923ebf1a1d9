/- Plain arithmetic of the negative, the complement and the sum of wide integers, in the forms in which the program's words compute them. Conditions: as each lemma says. -/
import Derived.Test.YtfikgbamnlmglaaBase
import Derived.Test.YtfikgbamnlmglaaNum
import Derived.Laws.Bits64b
namespace Go.Proofs.Ytfikgbamnlmglaa
open Go.RowKit
set_option linter.unusedVariables false

theorem wrapU (n : Int) : IntKind.u64.wrap n = loW n := by rw [IntKind.wrap_u64]; rfl
theorem wrap64_def (n : Int) : wrap64 n = (n + 9223372036854775808) % 18446744073709551616 - 9223372036854775808 := by unfold wrap64; rfl
theorem in64_wrap (n : Int) : In64 (wrap64 n) := by rw [wrap64_def]; unfold In64; omega
theorem inU_lo (n : Int) : InU (loW n) := loW_in n
theorem loW_self {n : Int} (h : InU n) : loW n = n := by unfold InU at h; unfold loW B64; omega
theorem wrap64_self {n : Int} (h : In64 n) : wrap64 n = n := by unfold In64 at h; rw [wrap64_def]; omega

/-- The bitwise complement of an int64. -/
theorem not_i64 {h : Int} (hh : In64 h) : bits .xor .i64 (-1) h = -1 - h := by
  show IntKind.i64.wrap ((BitVec.ofInt 64 (-1) ^^^ BitVec.ofInt 64 h).toNat : Int) = _
  have e : (BitVec.ofInt 64 (-1) ^^^ BitVec.ofInt 64 h) = ~~~ BitVec.ofInt 64 h := by
    have : BitVec.ofInt 64 (-1) = BitVec.allOnes 64 := by decide
    rw [this, BitVec.allOnes_xor]
  rw [e, BitVec.toNat_not, BitVec.toNat_ofInt, IntKind.wrap_i64]
  unfold In64 at hh
  omega
/-- The bitwise complement of a uint64. -/
theorem not_u64 {l : Int} (hl : InU l) : bits .xor .u64 IntKind.u64.max l = 18446744073709551615 - l := by
  show IntKind.u64.wrap ((BitVec.ofInt 64 18446744073709551615 ^^^ BitVec.ofInt 64 l).toNat : Int) = _
  have e : (BitVec.ofInt 64 18446744073709551615 ^^^ BitVec.ofInt 64 l) = ~~~ BitVec.ofInt 64 l := by
    have : BitVec.ofInt 64 18446744073709551615 = BitVec.allOnes 64 := by decide
    rw [this, BitVec.allOnes_xor]
  rw [e, BitVec.toNat_not, BitVec.toNat_ofInt, IntKind.wrap_u64]
  unfold InU at hl
  omega

/-- The negative, modulo 2^128. -/
def negW (v : Int) : Int := if v = -170141183460469231731687303715884105728 then v else -v
theorem negW_in {v : Int} (h : InW v) : InW (negW v) := by unfold InW at *; unfold negW; split <;> omega
/-- The complement. -/
theorem compl_in {v : Int} (h : InW v) : InW (-1 - v) := by unfold InW at *; omega
theorem compl_hl {v : Int} (h : InW v) : hiW (-1 - v) = -1 - hiW v ∧ loW (-1 - v) = 18446744073709551615 - loW v := by
  unfold hiW loW B64; omega
theorem neg_zero {v : Int} (h : InW v) (l : loW v = 0) : hiW (negW v) = wrap64 (-hiW v) ∧ loW (negW v) = 0 := by
  rw [wrap64_def]; unfold InW at h; unfold loW B64 at l; unfold negW hiW loW B64; split <;> omega
theorem neg_some {v : Int} (h : InW v) (l : ¬ loW v = 0) : hiW (negW v) = -1 - hiW v ∧ loW (negW v) = loW (-loW v) := by
  unfold InW at h; unfold loW B64 at l; unfold negW hiW loW B64; split <;> omega
/-- The sum, modulo 2^128. -/
def addW (u v : Int) : Int := (u + v + 170141183460469231731687303715884105728) % 340282366920938463463374607431768211456 - 170141183460469231731687303715884105728
theorem addW_in (u v : Int) : InW (addW u v) := by unfold InW addW; omega
theorem addW_self {u v : Int} (h : InW (u + v)) : addW u v = u + v := by unfold InW at h; unfold addW; omega
theorem add_carry {u v : Int} (hu : InW u) (hv : InW v) (c : loW (loW u + loW v) < loW u) :
    hiW (addW u v) = wrap64 (wrap64 (hiW u + hiW v) + 1) ∧ loW (addW u v) = loW (loW u + loW v) := by
  rw [wrap64_def, wrap64_def]; unfold InW at *; unfold loW B64 at c; unfold addW hiW loW B64; omega
theorem add_plain {u v : Int} (hu : InW u) (hv : InW v) (c : ¬ loW (loW u + loW v) < loW u) :
    hiW (addW u v) = wrap64 (hiW u + hiW v) ∧ loW (addW u v) = loW (loW u + loW v) := by
  rw [wrap64_def]; unfold InW at *; unfold loW B64 at c; unfold addW hiW loW B64; omega
instance (v : Int) : Decidable (In64 v) := by unfold In64; infer_instance
/-- Is a wide integer an int64? -/
def okW (v : Int) : Bool := decide (In64 v)
/-- The int64 of a wide integer; 0 if there is none. -/
def intW (v : Int) : Int := if In64 v then v else 0
theorem lo_back {v : Int} (h : In64 v) : wrap64 (loW v) = v := by
  rw [wrap64_def]; unfold In64 at h; unfold loW B64; omega
theorem hi_other {v : Int} (hv : InW v) (h : ¬ In64 v) : ¬ hiW (wrap64 (loW v)) = hiW v := by
  rw [wrap64_def]; unfold InW at hv; unfold In64 at h; unfold hiW loW B64; omega
theorem lo_lo (v : Int) : loW (wrap64 (loW v)) = loW v := by
  rw [wrap64_def]; unfold loW B64; omega
end Go.Proofs.Ytfikgbamnlmglaa
