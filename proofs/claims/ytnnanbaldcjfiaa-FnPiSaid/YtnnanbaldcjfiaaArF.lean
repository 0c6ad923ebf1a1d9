/- The program's sum of a series is the model's. Conditions: as each lemma says. -/
import Derived.Test.YtnnanbaldcjfiaaArE
import Derived.Outline
namespace Go.Proofs.Ytnnanbaldcjfiaa
open Go.ChangeShapes Go.WideShapes Go.ChangeAt Go.RowKit
set_option linter.unusedVariables false
set_option maxRecDepth 100000
set_option linter.unusedSimpArgs false
set_option maxHeartbeats 1000000
theorem add_zero {x : Iv} (h : Res x) : addI (intI 0) x = x := by
  rw [int_zero]
  unfold addI
  rcases res_or h with B | B
  · rw [bnd_yes (show Bnd (0, 0) by unfold Bnd; simp), bnd_yes B, Bool.and_self, kn_yes rfl]
    simp only [Int.zero_add]
    exact can_yes B
  · subst B; rw [bnd_whl, Bool.and_false, kn_no rfl]
theorem arcT_zero (n : Int) : arcT n 0 = quoI 1 n := by
  unfold arcT
  rw [show (2 * ((0 : Nat) : Int) + 1) = 1 by omega, div_one (arcP_res n 0)]; rfl
theorem alt_arc (n : Int) (T : Nat) (hT : 1 ≤ T) : ∀ j, j ≤ T → altF (resF (arcT n) T) (j + 1) = arcS n T j := by
  intro j
  induction j with
  | zero =>
    intro _
    show (if 0 % 2 = 0 then addI (altF _ 0) (resF (arcT n) T 0) else _) = _
    rw [if_pos (by omega)]
    have e : resF (arcT n) T 0 = quoI 1 n := by unfold resF; rw [if_neg (by omega), arcT_zero]
    rw [e]
    show addI (intI 0) (quoI 1 n) = quoI 1 n
    exact add_zero (quo_res 1 n)
  | succ j ih =>
    intro hj
    have e : resF (arcT n) T (j + 1) = arcL n T (j + 1) := by
      unfold resF arcL
      by_cases q : j + 1 = T
      · rw [if_pos q, if_pos q, q]
      · rw [if_neg q, if_neg q]
    show (if (j + 1) % 2 = 0 then addI (altF _ (j + 1)) (resF (arcT n) T (j + 1)) else subI (altF _ (j + 1)) (resF (arcT n) T (j + 1))) = (if j % 2 = 0 then subI (arcS n T j) (arcL n T (j + 1)) else addI (arcS n T j) (arcL n T (j + 1)))
    rw [ih (by omega), e]
    by_cases q : j % 2 = 0
    · rw [if_pos q, if_neg (by omega)]
    · rw [if_neg q, if_pos (by omega)]
/-- A row stays owned where the blocks from its base on are as they were. -/
theorem owns_same {w w1 : World} {B : Nat} {e : TypeId} {size n : Nat} {v : Value} {xs : List Value} (h : w.ownsRow B e size v n xs) (k : ∀ i, B ≤ i → i < w.heap.size → w1.heap[i]? = w.heap[i]?) : w1.ownsRow B e size v n xs := by
  obtain ⟨hl, h | ⟨g, cap, cur, h1, h2, h3, h4⟩⟩ := h
  · exact ⟨hl, .inl h⟩
  · have lt : g < w.heap.size := by
      rcases Nat.lt_or_ge g w.heap.size with q | q
      · exact q
      · rw [Array.getElem?_eq_none (by omega)] at h3; cases h3
    exact ⟨hl, .inr ⟨g, cap, cur, h1, h2, (k g h2 lt).trans h3, h4⟩⟩
end Go.Proofs.Ytnnanbaldcjfiaa
