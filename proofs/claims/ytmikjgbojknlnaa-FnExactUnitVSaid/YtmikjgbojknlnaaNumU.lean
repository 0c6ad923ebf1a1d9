/- Plain arithmetic of sines and cosines of a number. Conditions: as each lemma says. -/
import Derived.Test.YtmikjgbojknlnaaNumT
import Derived.Test.YtmikjgbojknlnaaNumS
namespace Go.Proofs.Ytmikjgbojknlnaa
open Go.RowKit
set_option linter.unusedVariables false
set_option maxRecDepth 100000
set_option linter.unusedSimpArgs false
set_option maxHeartbeats 1000000

/-- The series of the quarter turn. -/
def quaS (m : Int) (r : Iv) : Iv := if m = 0 then sinS r else if m = 1 then cosS r else if m = 2 then negI (sinS r) else negI (cosS r)
/-- What is left of an angle. -/
def resA (n : Int) : Iv := subI (n, n) (turI (qrt n))
/-- The sine of the sum of an angle and some quarter turns. -/
def sinA (n q : Int) : Iv := if Ang n then metI (quaS ((qrt n + q) % 4) (resA n)) rng else rng
theorem quaS_res (m : Int) (r : Iv) : Res (quaS m r) := by
  unfold quaS; split
  · exact sinS_res r
  · split
    · exact cosS_res r
    · split <;> exact neg_res _
theorem and_mask2 (n : Int) : bits .and .i64 n 3 = n % 4 := by
  have h3 : (BitVec.ofInt 64 3).toNat = 2 ^ 2 - 1 := by decide
  have key : (BitVec.ofInt 64 n &&& BitVec.ofInt 64 3).toNat = (n % ((2 ^ 64 : Nat) : Int)).toNat % 2 ^ 2 := by
    rw [BitVec.toNat_and, BitVec.toNat_ofInt, h3, Nat.and_two_pow_sub_one_eq_mod]
  show IntKind.i64.wrap ((BitVec.ofInt 64 n &&& BitVec.ofInt 64 3).toNat : Nat) = n % 4
  rw [key, IntKind.wrap_i64]
  omega
theorem rng_bnd : Bnd rng := by unfold Bnd rng; simp
theorem tin_bnd : Bnd tin := by unfold Bnd tin; simp
theorem sub_of {x y : Iv} (h : Bnd (subI x y)) : Bnd x ∧ Bnd y ∧ subI x y = (x.1 - y.2, x.2 - y.1) := by
  unfold subI at h ⊢
  obtain ⟨e, k, r⟩ := kn_of h
  simp only [Bool.and_eq_true] at e
  exact ⟨of_decide_eq_true e.1, of_decide_eq_true e.2, r⟩
theorem add_of {x y : Iv} (h : Bnd (addI x y)) : Bnd x ∧ Bnd y ∧ addI x y = (x.1 + y.1, x.2 + y.2) := by
  unfold addI at h ⊢
  obtain ⟨e, k, r⟩ := kn_of h
  simp only [Bool.and_eq_true] at e
  exact ⟨of_decide_eq_true e.1, of_decide_eq_true e.2, r⟩
theorem neg_of {x : Iv} (h : Bnd (negI x)) : Bnd x ∧ negI x = (-x.2, -x.1) := by
  unfold negI at h ⊢
  obtain ⟨e, k, r⟩ := kn_of h
  exact ⟨of_decide_eq_true e, r⟩
/-- What is left is within the ring. -/
theorem resA_in {n : Int} (h : Ang n) : Bnd (resA n) ∧ -3373259500 ≤ (resA n).1 ∧ (resA n).2 ≤ 3373259500 := by
  have q := qrt_in n
  have e : qrt n = (n + 3373259426) / 6746518852 := if_pos h
  unfold Ang at h
  have t := turI_in (k := qrt n) (by omega) (by omega)
  have b := tur_bnd (k := qrt n) (by omega) (by omega)
  have bn : Bnd (n, n) := by unfold Bnd; simp only; omega
  have ends := turM_ends (k := qrt n) (by omega) (by omega)
  rw [← t] at ends
  have k1 : qrt n * 6746518852 ≤ n + 3373259426 := by rw [e]; omega
  have k2 : n + 3373259426 < qrt n * 6746518852 + 6746518852 := by rw [e]; omega
  have S : subI (n, n) (turI (qrt n)) = can (n - (turI (qrt n)).2, n - (turI (qrt n)).1) := by
    unfold subI; rw [bnd_yes bn, bnd_yes b]; rfl
  unfold resA
  rw [S]
  clear e t S bn
  generalize qrt n = k at *
  generalize turI k = y at *
  rcases ends with ⟨z, e⟩ | ⟨s, p, e, p0, p1⟩ | ⟨s, p, e, p0, p1⟩
  · subst e; rw [can_yes (by unfold Bnd; simp only; omega)]; unfold Bnd; simp only; omega
  · subst e; rw [can_yes (by unfold Bnd; simp only; omega)]; unfold Bnd; simp only; omega
  · subst e; rw [can_yes (by unfold Bnd; simp only; omega)]; unfold Bnd; simp only; omega
/-- Products of small numbers are small. -/
theorem mul_unit {a b : Int} (a0 : -4294967296 ≤ a) (a1 : a ≤ 4294967296) (b0 : 0 ≤ b) (b1 : b ≤ 4294967296) :
    -18446744073709551616 ≤ a * b ∧ a * b ≤ 18446744073709551616 := by
  have h1 : a * b ≤ 4294967296 * b := Int.mul_le_mul_of_nonneg_right a1 b0
  have h2 : -4294967296 * b ≤ a * b := Int.mul_le_mul_of_nonneg_right a0 b0
  omega
theorem mul_part {a b : Int} (a0 : 0 ≤ a) (a1 : a ≤ 2147483648) (b0 : 0 ≤ b) (b1 : b ≤ 4294967296) : 0 ≤ a * b ∧ a * b ≤ 9223372036854775808 := by
  have h1 : a * b ≤ 2147483648 * b := Int.mul_le_mul_of_nonneg_right a1 b0
  have h2 : 0 ≤ a * b := Int.mul_nonneg a0 b0
  omega
theorem div_part {y A : Int} (y0 : 0 ≤ y) (y1 : y ≤ 4294967296) (hA : 2 ≤ A) : 0 ≤ dvD y (A * 4294967296) ∧ dvU y (A * 4294967296) ≤ 2147483648 := by
  have p : 0 < A * 4294967296 := by omega
  unfold dvD dvU
  rw [if_neg (by omega), if_neg (by omega)]
  refine ⟨Int.ediv_nonneg (by omega) (by omega), ?_⟩
  unfold cei
  have : -2147483648 ≤ -(y * 4294967296) / (A * 4294967296) := by
    apply Int.le_ediv_of_mul_le p
    have : 2147483648 * (2 * 4294967296) ≤ 2147483648 * (A * 4294967296) := by omega
    omega
  omega
/-- The squares of what is left. -/
theorem sqr_small {r : Iv} (h : Bnd r) (h0 : -4294967296 ≤ r.1) (h1 : r.2 ≤ 4294967296) (b : Bnd (sqrI r)) : 0 ≤ (sqrI r).1 ∧ (sqrI r).2 ≤ 4294967296 := by
  have e := sqrI_yes h
  obtain ⟨n0, n1⟩ := abs_ends h
  have o := h.2.1
  have f1 : absF r ≤ 4294967296 := by unfold absF; omega
  have f0 : 0 ≤ absF r := by unfold Bnd at n0; simp only at n0; omega
  rw [e] at b ⊢
  obtain ⟨c, k, q⟩ := kn_of b
  rw [q]
  simp only [Bool.and_eq_true] at c
  have c1 := of_decide_eq_true c.1
  have c2 := of_decide_eq_true c.2
  unfold resI
  rw [if_pos c1, if_pos c2]
  have s0 : 0 ≤ absN r * absN r := Int.mul_nonneg n1 n1
  have s1 : absF r * absF r ≤ 4294967296 * 4294967296 := Int.mul_le_mul f1 f1 f0 (by omega)
  refine ⟨?_, ?_⟩
  · simp only; omega
  · simp only; unfold cei; omega
/-- Every step of the series lies between 0 and 1, or is lost. -/
theorem ser_small {y : Iv} {c : Int} (hc : c = 0 ∨ c = -1) (b : Bnd y → 0 ≤ y.1 ∧ y.2 ≤ 4294967296) : ∀ j : Nat, j ≤ 8 → Bnd (serI y c j) → 0 ≤ (serI y c j).1 ∧ (serI y c j).2 ≤ 4294967296 := by
  intro j
  induction j with
  | zero => intro _ _; unfold serI; rw [intI_yes (by omega) (by omega)]; simp
  | succ j ih =>
    intro hj h
    unfold serI at h ⊢
    obtain ⟨b1, bm, e⟩ := sub_of h
    obtain ⟨bd, bs, em⟩ := mul_of bm
    obtain ⟨by_, bi, z, ed⟩ := div_of bd
    obtain ⟨y0, y1⟩ := b by_
    obtain ⟨s0, s1⟩ := ih (by omega) bs
    have so := bs.2.1
    have yo := by_.2.1
    have A0 : 1 ≤ serF c j := by unfold serF; omega
    have A1 : serF c j ≤ 16 := by unfold serF; omega
    have P : 2 ≤ serF c j * (serF c j + 1) ∧ serF c j * (serF c j + 1) ≤ 272 := by
      have h1 : 1 * 2 ≤ serF c j * (serF c j + 1) := Int.mul_le_mul A0 (by omega) (by omega) (by omega)
      have h2 : serF c j * (serF c j + 1) ≤ 16 * 17 := Int.mul_le_mul A1 (by omega) (by omega) (by omega)
      omega
    generalize serF c j * (serF c j + 1) = A at *
    rw [intI_yes (n := A) (by omega) (by omega)] at ed
    simp only at ed
    have da := div_part (y := y.1) (A := A) y0 (by omega) P.1
    have db := div_part (y := y.2) (A := A) (by omega) y1 P.1
    have dab := div_part (y := y.1) (A := A) y0 (by omega) P.1
    rw [e, intI_yes (n := 1) (by omega) (by omega)]
    rw [em]
    simp only
    have d0 : 0 ≤ (divI y (intI A)).1 := by rw [intI_yes (n := A) (by omega) (by omega), ed]; simp only; omega
    have d1 : (divI y (intI A)).2 ≤ 2147483648 := by rw [intI_yes (n := A) (by omega) (by omega), ed]; simp only; omega
    have dor := bd.2.1
    generalize divI y (intI A) = d at *
    generalize serI y c j = s at *
    have m1 := mul_part (a := d.1) (b := s.1) d0 (by omega) s0 (by omega)
    have m2 := mul_part (a := d.1) (b := s.2) d0 (by omega) (by omega) s1
    have m3 := mul_part (a := d.2) (b := s.1) (by omega) d1 s0 (by omega)
    have m4 := mul_part (a := d.2) (b := s.2) (by omega) d1 (by omega) s1
    unfold cei
    omega
theorem sinS_meets {r : Iv} (h : Bnd r) (h0 : -4294967296 ≤ r.1) (h1 : r.2 ≤ 4294967296) (b : Bnd (sinS r)) : (sinS r).1 ≤ 4294967296 ∧ -4294967296 ≤ (sinS r).2 := by
  unfold sinS at b ⊢
  by_cases i : insI r rng = true
  · rw [if_pos i] at b ⊢
    obtain ⟨bm, _, e⟩ := add_of b
    obtain ⟨_, bs, em⟩ := mul_of bm
    obtain ⟨s0, s1⟩ := ser_small (.inl rfl) (fun k => sqr_small h h0 h1 k) 8 (by omega) bs
    have so := bs.2.1
    have ro := h.2.1
    rw [e, em]
    generalize serI (sqrI r) 0 8 = s at *
    have m1 := mul_unit (a := r.1) (b := s.1) h0 (by omega) s0 (by omega)
    have m2 := mul_unit (a := r.1) (b := s.2) h0 (by omega) (by omega) s1
    have m3 := mul_unit (a := r.2) (b := s.1) (by omega) h1 s0 (by omega)
    have m4 := mul_unit (a := r.2) (b := s.2) (by omega) h1 (by omega) s1
    unfold tin cei
    simp only
    omega
  · rw [if_neg i] at b; exact absurd b whl_not
theorem cosS_meets {r : Iv} (h : Bnd r) (h0 : -4294967296 ≤ r.1) (h1 : r.2 ≤ 4294967296) (b : Bnd (cosS r)) : (cosS r).1 ≤ 4294967296 ∧ -4294967296 ≤ (cosS r).2 := by
  unfold cosS at b ⊢
  by_cases i : insI r rng = true
  · rw [if_pos i] at b ⊢
    obtain ⟨bs, _, e⟩ := add_of b
    obtain ⟨s0, s1⟩ := ser_small (.inr rfl) (fun k => sqr_small h h0 h1 k) 8 (by omega) bs
    have so := bs.2.1
    rw [e]
    unfold tin
    simp only
    omega
  · rw [if_neg i] at b; exact absurd b whl_not
theorem qua_meets {r : Iv} (h : Bnd r) (h0 : -4294967296 ≤ r.1) (h1 : r.2 ≤ 4294967296) (m : Int) : olpI (quaS m r) rng = true := by
  rcases res_or (quaS_res m r) with B | B
  · refine olp_of B rng_bnd ?_ ?_
    all_goals
      unfold rng
      simp only
      unfold quaS at B ⊢
      split at B
      · rename_i e; rw [if_pos e]; have := sinS_meets h h0 h1 B; omega
      · rename_i e; rw [if_neg e]
        split at B
        · rename_i e; rw [if_pos e]; have := cosS_meets h h0 h1 B; omega
        · rename_i e; rw [if_neg e]
          split at B
          · rename_i e; rw [if_pos e]; obtain ⟨B', k⟩ := neg_of B; have := sinS_meets h h0 h1 B'; rw [k]; simp only; omega
          · rename_i e; rw [if_neg e]; obtain ⟨B', k⟩ := neg_of B; have := cosS_meets h h0 h1 B'; rw [k]; simp only; omega
  · exact whl_olp B (can_yes rng_bnd)
theorem sinA_meets {n : Int} (h : Ang n) (m : Int) : olpI (quaS m (resA n)) rng = true := by
  obtain ⟨b, r0, r1⟩ := resA_in h
  exact qua_meets b (by omega) (by omega) m
end Go.Proofs.Ytmikjgbojknlnaa
