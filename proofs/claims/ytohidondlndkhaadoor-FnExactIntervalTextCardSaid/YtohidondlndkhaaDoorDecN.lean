/- Numbers of decimal texts: digits prepended one by one. Conditions: as each lemma says. -/
import Derived.Lib.ItoaNum
namespace Go.Proofs.YtohidondlndkhaaDoor
set_option linter.unusedVariables false
set_option maxRecDepth 100000
set_option linter.unusedSimpArgs false
set_option maxHeartbeats 1000000

/-- The digits of a number ahead of what is there. -/
def prep (u : Nat) (acc : List UInt8) : List UInt8 :=
  if h : u = 0 then acc else prep (u / 10) (UInt8.ofNat (48 + u % 10) :: acc)
termination_by u
decreasing_by omega
theorem prep_zero (acc : List UInt8) : prep 0 acc = acc := by rw [prep, dif_pos rfl]
theorem prep_next {u : Nat} (h : u ≠ 0) (acc : List UInt8) : prep u acc = prep (u / 10) (UInt8.ofNat (48 + u % 10) :: acc) := by rw [prep, dif_neg h]
theorem prep_dec (u : Nat) : ∀ acc, u ≠ 0 → prep u acc = Lib.decDigits u ++ acc := by
  induction u using Nat.strongRecOn with
  | _ u ih =>
    intro acc h
    rw [prep_next h]
    by_cases c : u < 10
    · rw [show u / 10 = 0 by omega, prep_zero, Lib.decDigits, dif_pos c, show u % 10 = u by omega]; rfl
    · rw [ih (u / 10) (by omega) _ (by omega), Lib.decDigits.eq_def u, dif_neg c]
      simp
/-- What the model's text of a number is. -/
theorem itoa_prep (n : Int) (h : n ≠ 0) : Lib.itoa n = (if n < 0 then [45] else []) ++ prep n.natAbs [] := by
  unfold Lib.itoa
  rw [prep_dec _ _ (by omega)]
  by_cases c : n < 0
  · rw [if_pos c, if_pos c]; simp
  · rw [if_neg c, if_neg c, show n.toNat = n.natAbs by omega]; simp
theorem itoa_zero : Lib.itoa 0 = [48] := by
  unfold Lib.itoa; rw [if_neg (by omega), Lib.decDigits, dif_pos (by decide)]; rfl
theorem prep_length (u : Nat) : ∀ acc d, u < 10 ^ d → (prep u acc).length ≤ d + acc.length := by
  induction u using Nat.strongRecOn with
  | _ u ih =>
    intro acc d h
    by_cases c : u = 0
    · subst c; rw [prep_zero]; omega
    · rw [prep_next c]
      cases d with
      | zero => simp at h; omega
      | succ d =>
        have := ih (u / 10) (by omega) (UInt8.ofNat (48 + u % 10) :: acc) d (by rw [Nat.pow_succ] at h; omega)
        rw [List.length_cons] at this; omega
theorem digit_next (k : Int) : (k.tdiv 10).natAbs = k.natAbs / 10 := by rw [Int.natAbs_tdiv]; rfl
theorem digit_here (k : Int) : (k.tmod 10).natAbs = k.natAbs % 10 := by rw [Int.natAbs_tmod]; rfl
end Go.Proofs.YtohidondlndkhaaDoor
