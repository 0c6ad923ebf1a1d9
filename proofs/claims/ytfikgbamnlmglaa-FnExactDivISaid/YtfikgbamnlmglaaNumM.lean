/- Plain arithmetic of fixed-point numbers: quotients rounded down and up, and numbers that are kept only if they are fixes. Conditions: as each lemma says. -/
import Derived.Test.YtfikgbamnlmglaaNumG
import Derived.Test.YtfikgbamnlmglaaNumK
namespace Go.Proofs.Ytfikgbamnlmglaa
open Go.RowKit
set_option linter.unusedVariables false
set_option maxRecDepth 100000

/-- Is a number a fix? -/
def InF (v : Int) : Prop := -1152921504606846976 ≤ v ∧ v ≤ 1152921504606846976
instance (v : Int) : Decidable (InF v) := by unfold InF; infer_instance
def okF (v : Int) : Bool := decide (InF v)
theorem okF_yes {v : Int} (h : InF v) : okF v = true := decide_eq_true h
theorem okF_no {v : Int} (h : ¬ InF v) : okF v = false := decide_eq_false h
theorem okF_iff {v : Int} : okF v = true ↔ InF v := by unfold okF; simp
theorem inF_64 {v : Int} (h : InF v) : In64 v := by unfold InF at h; unfold In64; omega
/-- A number, if it exists and is a fix; and whether it does. -/
def resI (c : Bool) (v : Int) : Int := if c = true ∧ InF v then v else 0
def resB (c : Bool) (v : Int) : Bool := decide (c = true ∧ InF v)
theorem res_yes {c : Bool} {v : Int} (h : c = true) (k : InF v) : resI c v = v ∧ resB c v = true := ⟨if_pos ⟨h, k⟩, decide_eq_true ⟨h, k⟩⟩
theorem res_none {c : Bool} {v : Int} (h : c = false) : resI c v = 0 ∧ resB c v = false := by
  subst h; exact ⟨if_neg (by simp), decide_eq_false (by simp)⟩
theorem res_over {c : Bool} {v : Int} (k : ¬ InF v) : resI c v = 0 ∧ resB c v = false :=
  ⟨if_neg (fun h => k h.2), decide_eq_false (fun h => k h.2)⟩
theorem res_in (c : Bool) (v : Int) : InF (resI c v) := by
  unfold resI; split
  · rename_i h; exact h.2
  · unfold InF; omega
theorem intW_self {v : Int} (h : In64 v) : intW v = v := if_pos h
theorem okW_yes {v : Int} (h : In64 v) : okW v = true := decide_eq_true h
theorem okW_no {v : Int} (h : ¬ In64 v) : okW v = false := decide_eq_false h
/-- What is no int64 is no fix. -/
theorem res_word (v : Int) : resI (okW v) (intW v) = resI true v ∧ resB (okW v) (intW v) = resB true v := by
  by_cases h : In64 v
  · rw [okW_yes h, intW_self h]; exact ⟨rfl, rfl⟩
  · have k : ¬ InF v := fun k => h (inF_64 k)
    rw [okW_no h, (res_none rfl).1, (res_none rfl).2, (res_over k).1, (res_over k).2]; exact ⟨rfl, rfl⟩
/-- The same under a condition. -/
theorem res_word_if {c : Bool} (v : Int) : resI (c && okW v) (intW v) = resI c v ∧ resB (c && okW v) (intW v) = resB c v := by
  cases c
  · simp [resI, resB]
  · exact res_word v

/-- A quotient, rounded up. -/
def cei (v d : Int) : Int := -(-v / d)
def upW (v d : Int) : Int := if 1 ≤ d then cei v d else 0
theorem cei_exact {v d : Int} (d0 : 1 ≤ d) (h : v % d = 0) : cei v d = v / d := by
  have e := Int.mul_ediv_add_emod v d
  have k := div_known (v := -v) (d := d) (q := -(v / d)) (r := 0) (by rw [Int.mul_neg]; omega) (by omega) (by omega)
  unfold cei; omega
theorem cei_more {v d : Int} (d0 : 1 ≤ d) (h : ¬ v % d = 0) : cei v d = v / d + 1 := by
  have e := Int.mul_ediv_add_emod v d
  have r := rem_in (v := v) d0
  have k := div_known (v := -v) (d := d) (q := -(v / d) - 1) (r := d - v % d) (by rw [Int.mul_sub, Int.mul_neg]; omega) (by omega) (by omega)
  unfold cei; omega
/-- Next to a quotient with a rest, there is room for one more. -/
theorem quo_room {v d : Int} (hv : InW v) (d0 : 1 ≤ d) (h : ¬ v % d = 0) : InW (v / d + 1) := by
  have d2 : 2 ≤ d := by
    by_cases e : d = 1
    · subst e; exact absurd (Int.emod_one v) h
    · omega
  have e := Int.mul_ediv_add_emod v d
  have r := rem_in (v := v) d0
  unfold InW at *
  have a : v / d ≤ 85070591730234615865843651857942052864 := Int.ediv_le_of_le_mul (by omega) (by omega)
  have b : -85070591730234615865843651857942052865 ≤ v / d := Int.le_ediv_of_mul_le (by omega) (by omega)
  omega
theorem up_in {v d : Int} (hv : InW v) : InW (upW v d) := by
  unfold upW; split
  · rename_i d0
    by_cases h : v % d = 0
    · rw [cei_exact d0 h]; exact quo_in hv d0
    · rw [cei_more d0 h]; exact quo_room hv d0 h
  · unfold InW; omega
theorem quoW_in {v d : Int} (hv : InW v) : InW (quoW v d) := by
  unfold quoW; split
  · exact quo_in hv ‹_›
  · unfold InW; omega
/-- The test of the model whether a quotient is exact: both products agree modulo 2^64. -/
theorem same_mod {v d : Int} (d0 : 1 ≤ d) (d1 : In64 d) : wrap64 (v / d * d) = wrap64 v ↔ v % d = 0 := by
  have e := Int.mul_ediv_add_emod v d
  have r := rem_in (v := v) d0
  rw [wrap64_def, wrap64_def, Int.mul_comm]
  generalize v % d = m at *
  generalize v / d = q at *
  unfold In64 at d1
  constructor
  · intro h; omega
  · intro h; subst h; rw [← e]; simp
/-- The root of a fix in units, rounded down: of the product with 2^32. -/
def rtD (a : Int) : Int := if a < 0 then 0 else (rootW (a * 4294967296).toNat : Int)
/-- The same, rounded up. -/
def rtU (a : Int) : Int := if rtD a * rtD a = a * 4294967296 then rtD a else rtD a + 1
def okR (a : Int) : Bool := decide (0 ≤ a ∧ a ≤ 1152921504606846976)
theorem rtD_spec {a : Int} (a0 : 0 ≤ a) (a1 : a ≤ 1152921504606846976) : 0 ≤ rtD a ∧ rtD a ≤ 70368744177664 ∧ rtD a * rtD a ≤ a * 4294967296 ∧ a * 4294967296 < (rtD a + 1) * (rtD a + 1) := by
  have e : rtD a = (rootW (a * 4294967296).toNat : Int) := if_neg (by omega)
  have h := rootW_spec (m := (a * 4294967296).toNat) (by omega)
  rw [e]
  generalize rootW (a * 4294967296).toNat = r at h
  have h1 : ((r * r : Nat) : Int) ≤ a * 4294967296 := by have := h.1; omega
  have h2 : a * 4294967296 < (((r + 1) * (r + 1) : Nat) : Int) := by have := h.2; omega
  rw [Int.natCast_mul] at h1 h2
  refine ⟨by omega, ?_, h1, by simpa using h2⟩
  by_cases c : (r : Int) ≤ 70368744177664
  · exact c
  · exfalso
    have c1 : (70368744177665 : Int) ≤ r := by omega
    have := Int.mul_le_mul c1 c1 (by omega) (by omega)
    omega
theorem rtD_in {a : Int} (a1 : a ≤ 1152921504606846976) : 0 ≤ rtD a ∧ rtD a ≤ 70368744177664 := by
  by_cases s : a < 0
  · have : rtD a = 0 := if_pos s
    omega
  · have := rtD_spec (a := a) (by omega) a1; omega
theorem rtU_in {a : Int} (a1 : a ≤ 1152921504606846976) : 0 ≤ rtU a ∧ rtU a ≤ 70368744177665 := by
  have := rtD_in a1
  unfold rtU; split <;> omega
/-- The model's test whether a root is exact. -/
theorem root_test {a : Int} (a0 : 0 ≤ a) (a1 : a ≤ 1152921504606846976) : (rtD a * rtD a / 4294967296 = a ∧ rtD a * rtD a % 4294967296 = 0) ↔ rtD a * rtD a = a * 4294967296 := by
  constructor
  · intro h; omega
  · intro h; omega
theorem and_mask32 (n : Int) : bits .and .i64 n 4294967295 = n % 4294967296 := by
  have h127 : (BitVec.ofInt 64 4294967295).toNat = 2 ^ 32 - 1 := by decide
  have key : (BitVec.ofInt 64 n &&& BitVec.ofInt 64 4294967295).toNat = (n % ((2 ^ 64 : Nat) : Int)).toNat % 2 ^ 32 := by
    rw [BitVec.toNat_and, BitVec.toNat_ofInt, h127, Nat.and_two_pow_sub_one_eq_mod]
  show IntKind.i64.wrap ((BitVec.ofInt 64 n &&& BitVec.ofInt 64 4294967295).toNat : Nat) = n % 4294967296
  rw [key, IntKind.wrap_i64]
  omega
/-- Are two numbers fixes; and is the second one a divisor? -/
def mdc (a b : Int) : Bool := decide (InF a ∧ InF b)
def dvc (a b : Int) : Bool := decide (InF a ∧ InF b ∧ ¬ b = 0)
/-- The quotient of two fixes in units, rounded down and up. -/
def dvD (a b : Int) : Int := if b < 0 then -a * 4294967296 / -b else a * 4294967296 / b
def dvU (a b : Int) : Int := if b < 0 then cei (-a * 4294967296) (-b) else cei (a * 4294967296) b
theorem mul_fix {a b : Int} (ha : InF a) (hb : InF b) : InW (a * b) := mul_in (inF_64 ha) (inF_64 hb)
theorem neg_fix {a : Int} (h : InF a) : InF (-a) := by unfold InF at *; omega
theorem neg_fix_iff {a : Int} : InF (-a) ↔ InF a := by unfold InF; omega
theorem shr_unit (v : Int) : shrW v 32 = v / 4294967296 := by
  unfold shrW; rw [if_pos (by omega)]; rfl
/-- The opposite of a result is the result for the opposite. -/
theorem res_neg (c : Bool) (v : Int) : -resI c v = resI c (-v) ∧ resB c v = resB c (-v) := by
  unfold resI resB
  by_cases h : c = true ∧ InF v
  · have k : c = true ∧ InF (-v) := ⟨h.1, neg_fix h.2⟩
    rw [if_pos h, if_pos k]; exact ⟨rfl, by rw [decide_eq_true h, decide_eq_true k]⟩
  · have k : ¬ (c = true ∧ InF (-v)) := fun k => h ⟨k.1, neg_fix_iff.1 k.2⟩
    rw [if_neg h, if_neg k]; exact ⟨rfl, by rw [decide_eq_false h, decide_eq_false k]⟩
theorem mdc_neg (a b : Int) : mdc (-a) b = mdc a b := by
  unfold mdc; rw [Bool.eq_iff_iff]; simp [neg_fix_iff]
theorem dvc_neg (a b : Int) : dvc (-a) b = dvc a b := by
  unfold dvc; rw [Bool.eq_iff_iff]; simp [neg_fix_iff]
theorem mul_up_down (a b : Int) : -(-a * b / 4294967296) = cei (a * b) 4294967296 := by
  unfold cei; rw [Int.neg_mul]
theorem div_up_down (a b : Int) : -dvD (-a) b = dvU a b := by
  unfold dvD dvU cei
  split
  · rw [Int.neg_neg, Int.neg_mul, Int.neg_neg]
  · rw [Int.neg_mul]
end Go.Proofs.Ytfikgbamnlmglaa
