/- Plain arithmetic of products and quotients of intervals that are bounded; degrees of angles in units. Conditions: as each lemma says. -/
import Derived.Test.YtmikjgbojknlnaaNumQ
namespace Go.Proofs.Ytmikjgbojknlnaa
open Go.RowKit
set_option linter.unusedVariables false
set_option maxRecDepth 100000
set_option linter.unusedSimpArgs false
set_option maxHeartbeats 1000000

theorem kn_of {c : Bool} {x : Iv} (h : Bnd (kn c x)) : c = true ∧ Bnd x ∧ kn c x = x := by
  cases c
  · rw [kn_no rfl] at h; exact absurd h whl_not
  · rw [kn_yes rfl] at h
    by_cases k : Bnd x
    · exact ⟨rfl, k, by rw [kn_yes rfl, can_yes k]⟩
    · rw [can_no k] at h; exact absurd h whl_not
theorem hul4_of {a b c d : Iv} (h : Bnd (hul4 a b c d)) : Bnd a ∧ Bnd b ∧ Bnd c ∧ Bnd d ∧ hul4 a b c d = (min (min (min a.1 b.1) c.1) d.1, max (max (max a.2 b.2) c.2) d.2) := by
  unfold hul4 at h ⊢
  obtain ⟨e, k, r⟩ := kn_of h
  simp only [Bool.and_eq_true] at e
  exact ⟨of_decide_eq_true e.1.1.1, of_decide_eq_true e.1.1.2, of_decide_eq_true e.1.2, of_decide_eq_true e.2, r⟩
theorem rdM_of {a b : Int} (h : Bnd (rdM a b)) : rdM a b = (a * b / 4294967296, cei (a * b) 4294967296) := by
  unfold rdM at h ⊢
  obtain ⟨e, k, r⟩ := kn_of h
  rw [r]
  simp only [Bool.and_eq_true] at e
  obtain ⟨e1, e2⟩ := e
  have f1 := of_decide_eq_true e1
  have f2 := of_decide_eq_true e2
  unfold resI
  rw [if_pos f1, if_pos f2]
theorem rdD_of {a b : Int} (h : Bnd (rdD a b)) : rdD a b = (dvD a b, dvU a b) := by
  unfold rdD at h ⊢
  obtain ⟨e, k, r⟩ := kn_of h
  rw [r]
  simp only [Bool.and_eq_true] at e
  obtain ⟨e1, e2⟩ := e
  have f1 := of_decide_eq_true e1
  have f2 := of_decide_eq_true e2
  unfold resI
  rw [if_pos f1, if_pos f2]
theorem mul_of {x y : Iv} (h : Bnd (mulI x y)) : Bnd x ∧ Bnd y ∧ mulI x y = (min (min (min (x.1 * y.1 / 4294967296) (x.1 * y.2 / 4294967296)) (x.2 * y.1 / 4294967296)) (x.2 * y.2 / 4294967296),
    max (max (max (cei (x.1 * y.1) 4294967296) (cei (x.1 * y.2) 4294967296)) (cei (x.2 * y.1) 4294967296)) (cei (x.2 * y.2) 4294967296)) := by
  by_cases k : Bnd x ∧ Bnd y
  · rw [mul_def k.1 k.2] at h ⊢
    obtain ⟨a, b, c, d, e⟩ := hul4_of h
    rw [e, rdM_of a, rdM_of b, rdM_of c, rdM_of d]
    exact ⟨k.1, k.2, rfl⟩
  · unfold mulI at h; rw [if_neg k] at h; exact absurd h whl_not
theorem div_of {x y : Iv} (h : Bnd (divI x y)) : Bnd x ∧ Bnd y ∧ ¬ (y.1 ≤ 0 ∧ 0 ≤ y.2) ∧ divI x y = (min (min (min (dvD x.1 y.1) (dvD x.1 y.2)) (dvD x.2 y.1)) (dvD x.2 y.2),
    max (max (max (dvU x.1 y.1) (dvU x.1 y.2)) (dvU x.2 y.1)) (dvU x.2 y.2)) := by
  by_cases k : Bnd x ∧ Bnd y ∧ ¬ (y.1 ≤ 0 ∧ 0 ≤ y.2)
  · rw [div_def k.1 k.2.1 k.2.2] at h ⊢
    obtain ⟨a, b, c, d, e⟩ := hul4_of h
    rw [e, rdD_of a, rdD_of b, rdD_of c, rdD_of d]
    exact ⟨k.1, k.2.1, k.2.2, rfl⟩
  · unfold divI at h; rw [if_neg k] at h; exact absurd h whl_not
theorem div_whl (y : Iv) : divI whl y = whl := by
  unfold divI; rw [if_neg (fun k => whl_not k.1)]
theorem mul_180 {x : Iv} (h : Bnd (mulI x (intI 180))) : mulI x (intI 180) = (180 * x.1, 180 * x.2) ∧ Bnd x := by
  obtain ⟨a, b, e⟩ := mul_of h
  rw [intI_yes (n := 180) (by omega) (by omega)] at e ⊢
  simp only at e
  have k : x.1 ≤ x.2 := a.2.1
  refine ⟨?_, a⟩
  rw [e]
  have e1 : x.1 * (180 * 4294967296) / 4294967296 = 180 * x.1 := by omega
  have e2 : x.2 * (180 * 4294967296) / 4294967296 = 180 * x.2 := by omega
  have e3 : cei (x.1 * (180 * 4294967296)) 4294967296 = 180 * x.1 := by unfold cei; omega
  have e4 : cei (x.2 * (180 * 4294967296)) 4294967296 = 180 * x.2 := by unfold cei; omega
  rw [e1, e2, e3, e4]
  simp only [Prod.mk.injEq]
  omega
theorem tur_two : turI 2 = (13493037704, 13493037705) := by
  rw [turI_in (by omega) (by omega), turM_pos (by omega)]; rfl
theorem quo_of {a : Int} (h : Bnd (quoI a 10000000)) : quoI a 10000000 = (a * 4294967296 / 10000000, cei (a * 4294967296) 10000000) := by
  unfold quoI at h ⊢
  rw [if_neg (by omega)] at h ⊢
  unfold flq at h ⊢
  obtain ⟨e, k, r⟩ := kn_of h
  rw [r]
  simp only [Bool.and_eq_true] at e
  obtain ⟨e1, e2⟩ := e
  have f1 := of_decide_eq_true e1
  have f2 := of_decide_eq_true e2
  unfold resI
  rw [if_pos f1, if_pos f2]
  unfold quoW upW
  rw [if_pos (by omega), if_pos (by omega)]
theorem deg_back {a : Int} (h0 : -18000000000 ≤ a) (h1 : a ≤ 18000000000) : olpI (degI (radI a)) (quoI a 10000000) = true := by
  rcases res_or (div_res (mulI (radI a) (intI 180)) (turI 2)) with B | B
  · obtain ⟨m, t, _, e⟩ := div_of B
    obtain ⟨f, bx⟩ := mul_180 m
    rcases res_or (quo_res a 10000000) with Q | Q
    · have g := quo_of Q
      refine olp_of B Q ?_ ?_
      · show (divI (mulI (radI a) (intI 180)) (turI 2)).1 ≤ _
        rw [e, f, tur_two, g]
        simp only
        rcases rad_ends (a := a) (by omega) (by omega) with ⟨z, e⟩ | ⟨s, q, r, e, q0, q1, q2, r1, r2⟩ | ⟨s, q, r, e, q0, q1, q2, r1, r2⟩ <;>
        (rw [e]; clear e; simp only; unfold dvD cei; simp only [if_neg (show ¬ (13493037704 : Int) < 0 by omega), if_neg (show ¬ (13493037705 : Int) < 0 by omega)]; omega)
      · show _ ≤ (divI (mulI (radI a) (intI 180)) (turI 2)).2
        rw [e, f, tur_two, g]
        simp only
        rcases rad_ends (a := a) (by omega) (by omega) with ⟨z, e⟩ | ⟨s, q, r, e, q0, q1, q2, r1, r2⟩ | ⟨s, q, r, e, q0, q1, q2, r1, r2⟩ <;>
        (rw [e]; clear e; simp only; unfold dvU cei; simp only [if_neg (show ¬ (13493037704 : Int) < 0 by omega), if_neg (show ¬ (13493037705 : Int) < 0 by omega)]; omega)
    · rw [olp_swap]; exact whl_olp Q (div_res _ _)
  · exact whl_olp B (quo_res _ _)
end Go.Proofs.Ytmikjgbojknlnaa
