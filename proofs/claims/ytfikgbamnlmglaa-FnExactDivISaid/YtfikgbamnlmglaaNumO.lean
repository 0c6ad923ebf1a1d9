/- Plain arithmetic of products, quotients, common parts and overlaps of intervals, as the model computes them. Conditions: as each lemma says. -/
import Derived.Test.YtfikgbamnlmglaaNumN
namespace Go.Proofs.Ytfikgbamnlmglaa
open Go.RowKit
set_option linter.unusedVariables false
set_option maxRecDepth 100000
set_option linter.unusedSimpArgs false
set_option maxHeartbeats 1000000

theorem kn_lost {c d : Bool} {l h : Int} {R : Iv} (e : R = kn (c && d) (l, h)) (k : (c && d) = false) : R = whl := by rw [e]; exact kn_no k
theorem four_all {R1 R2 R3 R4 : Iv} {l1 h1 l2 h2 l3 h3 l4 h4 : Int} (e1 : R1 = kn (true && true) (l1, h1)) (e2 : R2 = kn (true && true) (l2, h2)) (e3 : R3 = kn (true && true) (l3, h3)) (e4 : R4 = kn (true && true) (l4, h4))
    (o1 : l1 ≤ h1) (o2 : l2 ≤ h2) (o3 : l3 ≤ h3) (o4 : l4 ≤ h4) (f1 : InF l1 ∧ InF h1) (f2 : InF l2 ∧ InF h2) (f3 : InF l3 ∧ InF h3) (f4 : InF l4 ∧ InF h4) :
    hul4 R1 R2 R3 R4 = can (min 1152921504606846976 (min l1 (min l2 (min l3 l4))), max (-1152921504606846976) (max h1 (max h2 (max h3 h4)))) := by
  rw [e1, e2, e3, e4, Bool.and_self, kn_yes rfl, kn_yes rfl, kn_yes rfl, kn_yes rfl, hul4_raw o1 o2 o3 o4]
  unfold InF at *
  have a : min (min (min l1 l2) l3) l4 = min 1152921504606846976 (min l1 (min l2 (min l3 l4))) := by omega
  have b : max (max (max h1 h2) h3) h4 = max (-1152921504606846976) (max h1 (max h2 (max h3 h4))) := by omega
  simp only [a, b]
theorem mul_def {x y : Iv} (h1 : Bnd x) (h2 : Bnd y) : mulI x y = hul4 (rdM x.1 y.1) (rdM x.1 y.2) (rdM x.2 y.1) (rdM x.2 y.2) := if_pos ⟨h1, h2⟩
theorem div_def {x y : Iv} (h1 : Bnd x) (h2 : Bnd y) (z : ¬ (y.1 ≤ 0 ∧ 0 ≤ y.2)) : divI x y = hul4 (rdD x.1 y.1) (rdD x.1 y.2) (rdD x.2 y.1) (rdD x.2 y.2) := if_pos ⟨h1, h2, z⟩
/-- The model's common part of two bounded intervals. -/
theorem meet_both {x y : Iv} (h1 : Bnd x) (h2 : Bnd y) : (olpI x y = true ↔ max x.1 y.1 ≤ min x.2 y.2) := by
  unfold olpI
  rw [can_yes h1, can_yes h2, decide_eq_true_iff]
  unfold Bnd at *
  omega
theorem meet_yes {x y : Iv} (h1 : Bnd x) (h2 : Bnd y) (k : max x.1 y.1 ≤ min x.2 y.2) : metI x y = (max x.1 y.1, min x.2 y.2) ∧ olpI x y = true := by
  have o := (meet_both h1 h2).2 k
  refine ⟨?_, o⟩
  unfold metI
  rw [if_pos o, can_yes h1, can_yes h2]
theorem meet_no {x y : Iv} (h1 : Bnd x) (h2 : Bnd y) (k : ¬ max x.1 y.1 ≤ min x.2 y.2) : metI x y = (0, 0) ∧ olpI x y = false := by
  have o : olpI x y = false := by
    cases e : olpI x y
    · rfl
    · exact absurd ((meet_both h1 h2).1 e) k
  refine ⟨?_, o⟩
  unfold metI
  rw [if_neg (by simp [o])]
theorem meet_none {x y : Iv} (h1 : ¬ Bnd x) (h2 : ¬ Bnd y) : metI x y = whl ∧ olpI x y = true := by
  have o : olpI x y = true := by unfold olpI; rw [can_no h1, can_no h2]; decide
  refine ⟨?_, o⟩
  unfold metI
  rw [if_pos o, can_no h1, can_no h2]; rfl
theorem meet_left {x y : Iv} (h1 : ¬ Bnd x) (h2 : Bnd y) : metI x y = y ∧ olpI x y = true := by
  have o : olpI x y = true := by
    unfold olpI; rw [can_no h1, can_yes h2, decide_eq_true_iff]; unfold Bnd at h2; unfold whl; simp only; omega
  refine ⟨?_, o⟩
  unfold metI
  rw [if_pos o, can_no h1, can_yes h2]
  unfold Bnd at h2; unfold whl
  have a : max (-1152921504606846976) y.1 = y.1 := by omega
  have b : min 1152921504606846976 y.2 = y.2 := by omega
  simp only [a, b]
theorem meet_right {x y : Iv} (h1 : Bnd x) (h2 : ¬ Bnd y) : metI x y = x ∧ olpI x y = true := by
  have o : olpI x y = true := by
    unfold olpI; rw [can_yes h1, can_no h2, decide_eq_true_iff]; unfold Bnd at h1; unfold whl; simp only; omega
  refine ⟨?_, o⟩
  unfold metI
  rw [if_pos o, can_yes h1, can_no h2]
  unfold Bnd at h1; unfold whl
  have a : max x.1 (-1152921504606846976) = x.1 := by omega
  have b : min x.2 1152921504606846976 = x.2 := by omega
  simp only [a, b]
theorem ins_any {x y : Iv} (h2 : ¬ Bnd y) : insI x y = true := by
  unfold insI; rw [can_no h2, decide_eq_true_iff]
  have := can_in x; unfold InI at this; unfold whl; simp only; omega
theorem ins_both {x y : Iv} (h1 : Bnd x) (h2 : Bnd y) : insI x y = decide (y.1 ≤ x.1 ∧ x.2 ≤ y.2) := by
  unfold insI; rw [can_yes h1, can_yes h2]
theorem ins_no {x y : Iv} (h1 : ¬ Bnd x) (h2 : Bnd y) : insI x y = false := by
  unfold insI; rw [can_no h1, can_yes h2]
  apply decide_eq_false
  unfold Bnd at h2; unfold whl; simp only; omega
end Go.Proofs.Ytfikgbamnlmglaa
