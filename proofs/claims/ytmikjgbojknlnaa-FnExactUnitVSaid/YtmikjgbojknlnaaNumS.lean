/- Plain arithmetic of series of arc cotangents, and of the ways to pi. Conditions: as each lemma says. -/
import Derived.Test.YtmikjgbojknlnaaNumR
namespace Go.Proofs.Ytmikjgbojknlnaa
open Go.RowKit
set_option linter.unusedVariables false
set_option maxRecDepth 100000
set_option linter.unusedSimpArgs false
set_option maxHeartbeats 1000000

/-- The powers of 1 / n that a series takes, and its terms without their signs. -/
def arcP (n : Int) : Nat → Iv
  | 0 => quoI 1 n
  | k + 1 => divI (arcP n k) (intI (n * n))
def arcT (n : Int) (k : Nat) : Iv := divI (arcP n k) (intI (2 * (k : Int) + 1))
/-- The last term is replaced by the hull of it and 0. -/
def arcL (n : Int) (t k : Nat) : Iv := if k = t then hulI (arcT n k) (intI 0) else arcT n k
def arcS (n : Int) (t : Nat) : Nat → Iv
  | 0 => quoI 1 n
  | k + 1 => if k % 2 = 0 then subI (arcS n t k) (arcL n t (k + 1)) else addI (arcS n t k) (arcL n t (k + 1))
/-- Are the arguments of a series in their ranges? -/
def ArcIn (n t : Int) : Prop := 2 ≤ n ∧ n ≤ 1000 ∧ 1 ≤ t ∧ t ≤ 40
instance (n t : Int) : Decidable (ArcIn n t) := by unfold ArcIn; infer_instance
def arcC (n t : Int) : Iv := if ArcIn n t then arcS n t.toNat t.toNat else whl
theorem arcP_res (n : Int) (k : Nat) : Res (arcP n k) := by cases k; exact quo_res _ _; exact div_res _ _
theorem arcT_res (n : Int) (k : Nat) : Res (arcT n k) := div_res _ _
theorem arcL_res (n : Int) (t k : Nat) : Res (arcL n t k) := by unfold arcL; split; exact hul_res _ _; exact div_res _ _
theorem arcS_res (n : Int) (t k : Nat) : Res (arcS n t k) := by
  cases k
  · exact quo_res _ _
  · unfold arcS; split; exact sub_res _ _; exact add_res _ _
theorem arcC_res (n t : Int) : Res (arcC n t) := by unfold arcC; split; exact arcS_res _ _ _; exact res_whl
theorem arcC_in {n t : Int} (h : ArcIn n t) : arcC n t = arcS n t.toNat t.toNat := if_pos h
theorem arcC_out {n t : Int} (h : ¬ ArcIn n t) : arcC n t = whl := if_neg h
/-- The ways to pi. -/
def macI (t : Int) : Iv := subI (mulI (intI 16) (arcC 5 t)) (mulI (intI 4) (arcC 239 t))
def eulI (t : Int) : Iv := addI (mulI (intI 4) (arcC 2 t)) (mulI (intI 4) (arcC 3 t))
theorem ways_all : ∀ k : Fin 40, olpI (macI (1 + (k.val : Int))) (eulI (1 + (k.val : Int))) = true ∧ olpI (macI (1 + (k.val : Int))) (turI 2) = true ∧ olpI (eulI (1 + (k.val : Int))) (turI 2) = true := by decide +kernel
theorem ways {t : Int} (h0 : 1 ≤ t) (h1 : t ≤ 40) : olpI (macI t) (eulI t) = true ∧ olpI (macI t) (turI 2) = true ∧ olpI (eulI t) (turI 2) = true := by
  have := ways_all ⟨(t - 1).toNat, by omega⟩
  have e : 1 + (((t - 1).toNat : Nat) : Int) = t := by omega
  simpa only [e] using this
/-- Multiples of pi. -/
theorem turM_ends {k : Int} (h0 : -4096 ≤ k) (h1 : k ≤ 4096) :
    (k = 0 ∧ turM k = (0, 0)) ∨ (0 < k ∧ ∃ q : Int, turM k = (q, q + 1) ∧ q * 1073741824 ≤ k * 7244019458077122842 ∧ k * 7244019458077122842 < (q + 1) * 1073741824) ∨
    (k < 0 ∧ ∃ q : Int, turM k = (-(q + 1), -q) ∧ q * 1073741824 ≤ -k * 7244019458077122842 ∧ -k * 7244019458077122842 < (q + 1) * 1073741824) := by
  by_cases z : k = 0
  · subst z; exact .inl ⟨rfl, rfl⟩
  · by_cases s : k < 0
    · refine .inr (.inr ⟨s, -k * 7244019458077122842 / 1073741824, ?_, ?_, ?_⟩)
      · unfold turM; rw [if_neg z, if_pos s]; rfl
      all_goals omega
    · refine .inr (.inl ⟨by omega, k * 7244019458077122842 / 1073741824, turM_pos (by omega), ?_, ?_⟩)
      all_goals omega
theorem tur_bnd {k : Int} (h0 : -4096 ≤ k) (h1 : k ≤ 4096) : Bnd (turI k) := by rw [turI_in h0 h1]; exact turM_bnd h0 h1
theorem tur_width {k : Int} (h0 : -4096 ≤ k) (h1 : k ≤ 4096) : widI (turI k) ≤ 1 := by
  unfold widI; rw [if_pos (tur_bnd h0 h1), turI_in h0 h1]
  rcases turM_ends h0 h1 with ⟨z, e⟩ | ⟨s, q, e, q0, q1⟩ | ⟨s, q, e, q0, q1⟩ <;> rw [e] <;> simp only <;> omega
theorem tur_opp {k : Int} (h0 : -4096 ≤ k) (h1 : k ≤ 4096) : negI (turI k) = turI (-k) := by
  rw [negI_yes (tur_bnd h0 h1), turI_in h0 h1, turI_in (by omega) (by omega)]
  unfold turM
  by_cases z : k = 0
  · subst z; rfl
  · by_cases s : k < 0
    · rw [if_neg z, if_pos s, if_neg (by omega), if_neg (by omega)]; simp
    · rw [if_neg z, if_neg s, if_neg (by omega), if_pos (by omega), Int.neg_neg]
theorem tur_sum {j k : Int} (h0 : -2000 ≤ j) (h1 : j ≤ 2000) (k0 : -2000 ≤ k) (k1 : k ≤ 2000) : olpI (addI (turI j) (turI k)) (turI (j + k)) = true := by
  rcases res_or (add_res (turI j) (turI k)) with B | B
  · have ba := tur_bnd (k := j) (by omega) (by omega)
    have bb := tur_bnd (k := k) (by omega) (by omega)
    have E : addI (turI j) (turI k) = ((turI j).1 + (turI k).1, (turI j).2 + (turI k).2) := by
      unfold addI at B ⊢
      obtain ⟨_, _, r⟩ := kn_of B
      exact r
    refine olp_of B (tur_bnd (by omega) (by omega)) ?_ ?_
    all_goals
      rw [E, turI_in (k := j) (by omega) (by omega), turI_in (k := k) (by omega) (by omega), turI_in (k := j + k) (by omega) (by omega)]
      clear E B ba bb
      rcases turM_ends (k := j) (by omega) (by omega) with ⟨z, e⟩ | ⟨s, q, e, q0, q1⟩ | ⟨s, q, e, q0, q1⟩ <;>
      rcases turM_ends (k := k) (by omega) (by omega) with ⟨z', e'⟩ | ⟨s', q', e', q0', q1'⟩ | ⟨s', q', e', q0', q1'⟩ <;>
      rcases turM_ends (k := j + k) (by omega) (by omega) with ⟨z'', e''⟩ | ⟨s'', q'', e'', q0'', q1''⟩ | ⟨s'', q'', e'', q0'', q1''⟩ <;>
      rw [e, e', e''] <;> simp only <;> omega
  · exact whl_olp B (turI_res _)
/-- Dividing by 1 changes nothing. -/
theorem div_one {x : Iv} (h : Res x) : divI x (intI 1) = x := by
  rcases res_or h with B | B
  · rw [intI_yes (n := 1) (by omega) (by omega)]
    have b := B
    unfold Bnd at b
    have d : ∀ v : Int, -1152921504606846976 < v → v < 1152921504606846976 → rdD v (1 * 4294967296) = (v, v) := by
      intro v v0 v1
      have c : dvc v (1 * 4294967296) = true := decide_eq_true ⟨by unfold InF; omega, by unfold InF; omega, by omega⟩
      have e1 : dvD v (1 * 4294967296) = v := by unfold dvD; rw [if_neg (by omega)]; omega
      have e2 : dvU v (1 * 4294967296) = v := by unfold dvU cei; rw [if_neg (by omega)]; omega
      unfold rdD
      rw [c, e1, e2]
      obtain ⟨f1, f2⟩ := res_yes (c := true) (v := v) rfl (by unfold InF; omega)
      rw [f1, f2, Bool.and_self, kn_yes rfl, can_yes (by unfold Bnd; simp only; omega)]
    rw [div_def B (by unfold Bnd; simp) (by simp only; omega)]
    simp only
    rw [d x.1 (by omega) (by omega), d x.2 (by omega) (by omega)]
    rw [hul4_all ⟨by unfold Bnd; simp only; omega, by unfold Bnd; simp only; omega, by unfold Bnd; simp only; omega, by unfold Bnd; simp only; omega⟩]
    simp only
    have e : (min (min (min x.1 x.1) x.2) x.2, max (max (max x.1 x.1) x.2) x.2) = x := by
      apply Prod.ext <;> simp only <;> omega
    rw [e, can_yes B]
  · rw [B, div_whl]
end Go.Proofs.Ytmikjgbojknlnaa
