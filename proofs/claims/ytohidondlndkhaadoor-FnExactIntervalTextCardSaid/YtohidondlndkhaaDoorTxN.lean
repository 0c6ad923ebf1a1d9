/- Numbers of decimal texts with a point. No conditions but those that each says. -/
import Derived.Test.YtohidondlndkhaaDoorFmS
namespace Go.Proofs.YtohidondlndkhaaDoor
set_option linter.unusedVariables false
set_option maxRecDepth 100000
set_option linter.unusedSimpArgs false
set_option maxHeartbeats 1000000

/-- The digits of a number behind the point, k of them. -/
def padT (k r : Nat) : List UInt8 := List.replicate (k - (Lib.decDigits r).length) 48 ++ Lib.decDigits r
/-- A number of units of the last of k digits. -/
def unT (x : Int) (k : Nat) : List UInt8 := (if x < 0 then [45] else []) ++ (Lib.decDigits (x.natAbs / 10 ^ k) ++ (if k = 0 then [] else 46 :: padT k (x.natAbs % 10 ^ k)))
theorem dd_pos (m : Nat) : 1 ≤ (Lib.decDigits m).length := by rw [Lib.decDigits_length]; exact Lib.nDigits_pos m
theorem padT_len {k r : Nat} (k1 : 1 ≤ k) (h : r < 10 ^ k) : (padT k r).length = k := by
  have := dd_len r (k - 1) (by rw [show k - 1 + 1 = k by omega]; exact h)
  unfold padT
  rw [List.length_append, List.length_replicate]
  omega
theorem front0 (m : Nat) : List.replicate (0 + 1 - (Lib.decDigits m).length) 48 ++ Lib.decDigits m = Lib.decDigits m := by
  have := dd_pos m
  rw [show 0 + 1 - (Lib.decDigits m).length = 0 by omega]
  rfl
theorem front (m : Nat) {k : Nat} (k1 : 1 ≤ k) : List.replicate (k + 1 - (Lib.decDigits m).length) 48 ++ Lib.decDigits m = Lib.decDigits (m / 10 ^ k) ++ padT k (m % 10 ^ k) := by
  obtain ⟨j, rfl⟩ : ∃ j, k = j + 1 := ⟨k - 1, by omega⟩
  have p0 : 0 < (10 : Nat) ^ (j + 1) := Nat.pow_pos (by omega)
  have lt := Nat.mod_lt m p0
  have e := Nat.div_add_mod m (10 ^ (j + 1))
  by_cases q : m / 10 ^ (j + 1) = 0
  · have mm : m % 10 ^ (j + 1) = m := by rw [q, Nat.mul_zero] at e; omega
    have l := dd_len m j (by rw [mm] at lt; exact lt)
    rw [q, mm, dd_small (show 0 < 10 by omega), padT, show j + 1 + 1 - (Lib.decDigits m).length = (j + 1 - (Lib.decDigits m).length) + 1 by omega, List.replicate_succ]
    rfl
  · have g := dd_group j (m / 10 ^ (j + 1)) (m % 10 ^ (j + 1)) (Nat.pos_of_ne_zero q) lt
    rw [Nat.mul_comm, e] at g
    have l := padT_len (k := j + 1) (by omega) lt
    unfold padT at l ⊢
    have a := congrArg List.length g
    rw [List.length_append, l] at a
    have b := dd_pos (m / 10 ^ (j + 1))
    rw [show j + 1 + 1 - (Lib.decDigits m).length = 0 by omega, ← g]
    rfl
end Go.Proofs.YtohidondlndkhaaDoor
