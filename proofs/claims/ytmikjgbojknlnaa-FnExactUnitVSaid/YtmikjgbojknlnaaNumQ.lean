/- Plain arithmetic of angles in units, in radians and in degrees. Conditions: as each lemma says. -/
import Derived.Test.YtmikjgbojknlnaaNumP
namespace Go.Proofs.Ytmikjgbojknlnaa
open Go.RowKit
set_option linter.unusedVariables false
set_option maxRecDepth 100000
set_option linter.unusedSimpArgs false
set_option maxHeartbeats 1000000

theorem whl_olp {x y : Iv} (h : x = whl) (k : Res y) : olpI x y = true := by
  subst h; unfold olpI; rw [can_no whl_not, k]; have := res_in' k
  unfold InI at this; exact decide_eq_true (by unfold whl; simp only; omega)
theorem olp_of {x y : Iv} (hx : Bnd x) (hy : Bnd y) (a : x.1 ≤ y.2) (b : y.1 ≤ x.2) : olpI x y = true := by
  unfold olpI; rw [can_yes hx, can_yes hy]; exact decide_eq_true ⟨a, b⟩
theorem olp_swap (x y : Iv) : olpI x y = olpI y x := by
  unfold olpI; rw [Bool.eq_iff_iff, decide_eq_true_iff, decide_eq_true_iff]; exact ⟨fun h => ⟨h.2, h.1⟩, fun h => ⟨h.2, h.1⟩⟩
theorem res_or {x : Iv} (h : Res x) : Bnd x ∨ x = whl := by
  by_cases k : Bnd x
  · exact .inl k
  · exact .inr (res_not h k)
theorem rad_ends {a : Int} (h0 : -36000000000 ≤ a) (h1 : a ≤ 36000000000) :
    (a = 0 ∧ radI a = (0, 0)) ∨ (0 < a ∧ ∃ q r : Int, radI a = (q, r + 1) ∧ 0 ≤ q ∧ q * 966367641600000000 ≤ a * 7244019458077122842 ∧ a * 7244019458077122842 < (q + 1) * 966367641600000000 ∧ r * 966367641600000000 ≤ a * 7244019458077122843 ∧ a * 7244019458077122843 < (r + 1) * 966367641600000000) ∨
    (a < 0 ∧ ∃ q r : Int, radI a = (-(r + 1), -q) ∧ 0 ≤ q ∧ q * 966367641600000000 ≤ -a * 7244019458077122842 ∧ -a * 7244019458077122842 < (q + 1) * 966367641600000000 ∧ r * 966367641600000000 ≤ -a * 7244019458077122843 ∧ -a * 7244019458077122843 < (r + 1) * 966367641600000000) := by
  by_cases z : a = 0
  · subst z; exact .inl ⟨rfl, radI_zero⟩
  · by_cases s : a < 0
    · refine .inr (.inr ⟨s, -a * 7244019458077122842 / 966367641600000000, -a * 7244019458077122843 / 966367641600000000, ?_, ?_, ?_, ?_, ?_, ?_⟩)
      · rw [radI_neg s h0, negI_yes (radP_bnd (by omega) (by omega))]; rfl
      all_goals omega
    · refine .inr (.inl ⟨by omega, a * 7244019458077122842 / 966367641600000000, a * 7244019458077122843 / 966367641600000000, radI_pos (by omega) h1, ?_, ?_, ?_, ?_, ?_⟩)
      all_goals omega
theorem units_back {a : Int} (h0 : -18000000000 ≤ a) (h1 : a ≤ 18000000000) :
    Bnd (radI a) ∧ widI (radI a) ≤ 2 ∧ unK (radI a) = true ∧ unL (radI a) ≤ a ∧ a ≤ unH (radI a) ∧ unH (radI a) - unL (radI a) ≤ 2 ∧ -20000000000 ≤ unL (radI a) ∧ unH (radI a) ≤ 20000000000 := by
  suffices S : Bnd (radI a) ∧ (radI a).2 - (radI a).1 ≤ 2 ∧ unB (radI a).1 ≤ a ∧ a ≤ -unB (-(radI a).2) ∧ -unB (-(radI a).2) - unB (radI a).1 ≤ 2 by
    obtain ⟨b, w, l, h, d⟩ := S
    have ok : UnOk (radI a) := ⟨b, by omega, by omega⟩
    obtain ⟨e1, e2, e3⟩ := un_yes ok
    rw [e1, e2, e3]
    refine ⟨b, by unfold widI; rw [if_pos b]; exact w, rfl, l, h, d, by omega, by omega⟩
  rcases rad_ends (a := a) (by omega) (by omega) with ⟨rfl, e⟩ | ⟨s, q, r, e, q0, q1, q2, r1, r2⟩ | ⟨s, q, r, e, q0, q1, q2, r1, r2⟩
  · rw [e]; refine ⟨by unfold Bnd; simp, by simp, ?_, ?_, ?_⟩ <;> (simp [unB])
  · rw [e]
    have qr : q ≤ r := by omega
    have dq : r ≤ q + 1 := by omega
    refine ⟨by unfold Bnd; simp only; omega, by simp only; omega, ?_, ?_, ?_⟩
    · simp only; unfold unB; split <;> omega
    · simp only; unfold unB; rw [if_neg (by omega)]; omega
    · simp only; unfold unB; rw [if_neg (by omega)]; split <;> omega
  · rw [e]
    have qr : q ≤ r := by omega
    have dq : r ≤ q + 1 := by omega
    refine ⟨by unfold Bnd; simp only; omega, by simp only; omega, ?_, ?_, ?_⟩
    · simp only; unfold unB; rw [if_neg (by omega)]; omega
    · simp only; unfold unB; split <;> omega
    · simp only; unfold unB; rw [if_neg (show ¬ 0 < -(r + 1) by omega)]; split <;> omega
theorem rad_bnd {a : Int} (h0 : -36000000000 ≤ a) (h1 : a ≤ 36000000000) : Bnd (radI a) := by
  rcases rad_ends h0 h1 with ⟨rfl, e⟩ | ⟨s, q, r, e, q0, q1, q2, r1, r2⟩ | ⟨s, q, r, e, q0, q1, q2, r1, r2⟩
  · rw [e]; unfold Bnd; simp
  · rw [e]; unfold Bnd; simp only; omega
  · rw [e]; unfold Bnd; simp only; omega
theorem rad_add {a b : Int} (h0 : -18000000000 ≤ a) (h1 : a ≤ 18000000000) (k0 : -18000000000 ≤ b) (k1 : b ≤ 18000000000) : olpI (addI (radI a) (radI b)) (radI (a + b)) = true := by
  rcases res_or (add_res (radI a) (radI b)) with B | B
  · refine olp_of B (rad_bnd (by omega) (by omega)) ?_ ?_
    all_goals
      have ba := rad_bnd (a := a) (by omega) (by omega)
      have bb := rad_bnd (a := b) (by omega) (by omega)
      have E : addI (radI a) (radI b) = ((radI a).1 + (radI b).1, (radI a).2 + (radI b).2) := by
        unfold addI at B ⊢
        rw [bnd_yes ba, bnd_yes bb, Bool.and_self, kn_yes rfl] at B ⊢
        apply can_yes
        by_cases k : Bnd ((radI a).1 + (radI b).1, (radI a).2 + (radI b).2)
        · exact k
        · rw [can_no k] at B; exact absurd B whl_not
      rw [E]
      clear E B ba bb
      rcases rad_ends (a := a) (by omega) (by omega) with ⟨za, e⟩ | ⟨s, q, r, e, q0, q1, q2, r1, r2⟩ | ⟨s, q, r, e, q0, q1, q2, r1, r2⟩ <;>
      rcases rad_ends (a := b) (by omega) (by omega) with ⟨zb, f⟩ | ⟨s', q', r', f, q0', q1', q2', r1', r2'⟩ | ⟨s', q', r', f, q0', q1', q2', r1', r2'⟩ <;>
      rcases rad_ends (a := a + b) (by omega) (by omega) with ⟨zc, g⟩ | ⟨s'', q'', r'', g, q0'', q1'', q2'', r1'', r2''⟩ | ⟨s'', q'', r'', g, q0'', q1'', q2'', r1'', r2''⟩ <;>
      rw [e, f, g] <;> simp only <;> omega
  · exact whl_olp B (radI_res _)
end Go.Proofs.Ytmikjgbojknlnaa
