/- Numbers of arcs and directions: the series of the arc tangent, arcs of numbers and of intervals, directions of points, and what is odd. No conditions. -/
import Derived.Test.YtmikjgbojknlnaaNumU
import Derived.Test.YtmikjgbojknlnaaNumQ
import Derived.Test.YtmikjgbojknlnaaWideZp
namespace Go.Proofs.Ytmikjgbojknlnaa
open Go.ChangeShapes Go.WideShapes Go.ChangeAt Go.RowKit
set_option linter.unusedVariables false
set_option maxRecDepth 100000
set_option linter.unusedSimpArgs false
set_option maxHeartbeats 1000000

/-- The series of the arc tangent, from its last term on. -/
def atL (y : Iv) : Nat → Iv
  | 0 => quoI 1 21
  | j + 1 => subI (quoI 1 (2 * (9 - (j : Int)) + 1)) (mulI y (atL y j))
theorem atL_res (y : Iv) (j : Nat) : Res (atL y j) := by cases j; exact quo_res _ _; exact sub_res _ _
def lim : Iv := (-1073741824, 1073741824)
def atS (x : Iv) : Iv := if insI x lim = true then addI (mulI x (atL (sqrI x) 10)) tin else whl
theorem atS_res (x : Iv) : Res (atS x) := by unfold atS; split; exact add_res _ _; exact res_whl
/-- The tangent of half of the arc of a tangent. -/
def hafT (x : Iv) : Iv := divI x (addI (intI 1) (sqrtI (addI (intI 1) (sqrI x))))
theorem hafT_res (x : Iv) : Res (hafT x) := div_res _ _
theorem sqrt_res (x : Iv) : Res (sqrtI x) := res_kn _ _
/-- The arc of a tangent from 0 to 1, by a quarter of it. -/
def rinA (x : Iv) : Iv := addI (addI (atS (hafT (hafT x))) (atS (hafT (hafT x)))) (addI (atS (hafT (hafT x))) (atS (hafT (hafT x))))
theorem rinA_res (x : Iv) : Res (rinA x) := add_res _ _
def qrtC : Iv := (-6746518853, 6746518853)
theorem qrt_turn : (turI 1).2 = 6746518853 := by decide
theorem turI_one : turI 1 = (6746518852, 6746518853) := by decide
theorem turI_mone : turI (-1) = (-6746518853, -6746518852) := by decide
theorem qrtC_bnd : Bnd qrtC := by unfold Bnd qrtC; simp
theorem qrtC_res : Res qrtC := can_yes qrtC_bnd
/-- The arc of a fix that is not negative. -/
def atnP (n : Int) : Iv := if 4294967296 < n then subI (turI 1) (rinA (divI (intI 1) (n, n))) else rinA (n, n)
theorem atnP_res (n : Int) : Res (atnP n) := by unfold atnP; split; exact sub_res _ _; exact rinA_res _
def FixN (n : Int) : Prop := -1152921504606846976 < n ∧ n < 1152921504606846976
instance (n : Int) : Decidable (FixN n) := by unfold FixN; exact inferInstance
def atnF (n : Int) : Iv := if FixN n then (if n < 0 then negI (atnP (-n)) else atnP n) else qrtC
theorem atnF_res (n : Int) : Res (atnF n) := by
  unfold atnF; split
  · split; exact neg_res _; exact atnP_res _
  · exact qrtC_res
def atnI (x : Iv) : Iv := hulI (atnF (can x).1) (atnF (can x).2)
theorem atnI_res (x : Iv) : Res (atnI x) := hul_res _ _
theorem atnF_no {n : Int} (h : ¬ FixN n) : atnF n = qrtC := if_neg h
theorem hul_qrt : hulI qrtC qrtC = qrtC := by decide
theorem atnI_yes {x : Iv} (h : Bnd x) : atnI x = hulI (atnF x.1) (atnF x.2) := by unfold atnI; rw [can_yes h]
theorem atnI_no {x : Iv} (h : ¬ Bnd x) : atnI x = qrtC := by
  unfold atnI; rw [can_no h, atnF_no (by unfold FixN whl; omega), atnF_no (by unfold FixN whl; omega)]; exact hul_qrt
/-- The root of 1 minus a square. -/
def cirP (n : Int) : Int := (4294967296 - n) * (4294967296 + n)
def cirD (n : Int) : Int := (rootW (cirP n).toNat : Int)
def cirU (n : Int) : Int := if cirD n * cirD n = cirP n then cirD n else cirD n + 1
def InR (n : Int) : Prop := -4294967296 ≤ n ∧ n ≤ 4294967296
instance (n : Int) : Decidable (InR n) := by unfold InR; exact inferInstance
def cirC (n : Int) : Iv := if InR n then (cirD n, cirU n) else whl
theorem cirP_in {n : Int} (h : InR n) : 0 ≤ cirP n ∧ cirP n ≤ 18446744073709551616 := by
  unfold InR at h
  have e : cirP n = 18446744073709551616 - n * n := by
    unfold cirP; rw [Int.sub_mul, Int.mul_add, Int.mul_add, Int.mul_comm n 4294967296]; omega
  have s0 : 0 ≤ n * n := by
    by_cases c : 0 ≤ n
    · exact Int.mul_nonneg c c
    · have := Int.mul_nonneg (show 0 ≤ -n by omega) (show 0 ≤ -n by omega)
      rw [Int.neg_mul_neg] at this; exact this
  exact ⟨Int.mul_nonneg (by omega) (by omega), by omega⟩
theorem cirD_in {n : Int} (h : InR n) : 0 ≤ cirD n ∧ cirD n ≤ 4294967296 ∧ cirD n ≤ cirU n ∧ cirU n ≤ 4294967296 := by
  have p := cirP_in h
  have s := rootW_spec (m := (cirP n).toNat) (by omega)
  have e : cirD n = (rootW (cirP n).toNat : Int) := rfl
  have u : cirU n = if cirD n * cirD n = cirP n then cirD n else cirD n + 1 := rfl
  generalize rootW (cirP n).toNat = r at *
  have h1 : ((r * r : Nat) : Int) ≤ cirP n := by have := s.1; omega
  rw [Int.natCast_mul] at h1
  have b : (r : Int) ≤ 4294967296 := by
    by_cases c : (r : Int) ≤ 4294967296
    · exact c
    · exfalso
      have c1 : (4294967297 : Int) ≤ r := by omega
      have := Int.mul_le_mul c1 c1 (by omega) (by omega)
      omega
  rw [u, e]
  split
  · omega
  · rename_i ne
    refine ⟨by omega, b, by omega, ?_⟩
    by_cases c : (r : Int) = 4294967296
    · exfalso; apply ne
      have h2 : (r : Int) * (r : Int) = 18446744073709551616 := by rw [c]; rfl
      omega
    · omega
theorem cirC_bnd {n : Int} (h : InR n) : Bnd (cirC n) := by
  have := cirD_in h
  unfold cirC; rw [if_pos h]; unfold Bnd; simp only; omega
theorem cirC_res (n : Int) : Res (cirC n) := by
  by_cases h : InR n
  · exact can_yes (cirC_bnd h)
  · unfold cirC; rw [if_neg h]; exact res_whl
theorem sf_cir {n : Int} (h : InR n) : sfI (4294967296 - n) (4294967296 + n) = cirD n ∧ sfB (4294967296 - n) (4294967296 + n) = true := by
  have b := cirD_in h
  have h' := id h
  unfold InR at h'
  have e : cirD n = (rootW ((4294967296 - n) * (4294967296 + n)).toNat : Int) := rfl
  unfold sfI sfB
  rw [if_neg (by omega), ← e]
  exact ⟨wrap64_self (by unfold In64; omega), decide_eq_true (by omega)⟩
/-- The arc sine of a fix. -/
def asnT (n : Int) : Iv := atnI (divI (n, n) (addI (intI 1) (cirC n)))
def asnF (n : Int) : Iv := if InR n then metI (addI (asnT n) (asnT n)) qrtC else whl
def asnI (x : Iv) : Iv := if olpI x rng = true then hulI (asnF (metI x rng).1) (asnF (metI x rng).2) else whl
theorem asnI_res (x : Iv) : Res (asnI x) := by unfold asnI; split; exact hul_res _ _; exact res_whl
theorem met_in {x : Iv} (h : olpI x rng = true) : In64 (metI x rng).1 ∧ In64 (metI x rng).2 := by
  have c := can_in x
  unfold metI; rw [if_pos h, can_yes rng_bnd]
  unfold InI at c; unfold rng In64; simp only; omega
def acsI (x : Iv) : Iv := subI (turI 1) (asnI x)
theorem one_bnd {n : Int} (h : FixN n) : Bnd (n, n) := by unfold FixN at h; unfold Bnd; simp only; omega
/-- Directions of points that are not below the axis. -/
def dirU (y x : Int) : Iv := if x < y ∧ -x < y then subI (turI 1) (atnI (rdD x y)) else if x < 0 then addI (atnI (rdD y x)) (turI 2) else atnI (rdD y x)
def DirN (y x : Int) : Prop := FixN y ∧ FixN x ∧ ¬ (y = 0 ∧ x = 0)
instance (y x : Int) : Decidable (DirN y x) := by unfold DirN; exact inferInstance
def dirA (y x : Int) : Iv := if DirN y x then (if y < 0 then negI (dirU (-y) x) else dirU y x) else whl
theorem dirU_res (y x : Int) : Res (dirU y x) := by
  unfold dirU; split
  · exact sub_res _ _
  · split; exact add_res _ _; exact atnI_res _
theorem dirA_res (y x : Int) : Res (dirA y x) := by
  unfold dirA; split
  · split; exact neg_res _; exact dirU_res _ _
  · exact res_whl
theorem hul4_same {r : Iv} (h : Res r) : hul4 r r r r = r := by
  rcases res_or h with B | B
  · rw [hul4_all ⟨B, B, B, B⟩]
    have e : (min (min (min r.1 r.1) r.1) r.1, max (max (max r.2 r.2) r.2) r.2) = r := by simp
    rw [e]; exact h
  · rw [hul4_lost (.inl B)]; exact B.symm
theorem div_at {a b : Int} (ha : FixN a) (hb : FixN b) (h : b ≠ 0) : divI (a, a) (b, b) = rdD a b := by
  rw [div_def (one_bnd ha) (one_bnd hb) (by simp only; omega)]
  exact hul4_same (res_kn _ _)
theorem neg_neg_res {r : Iv} (h : Res r) : negI (negI r) = r := by
  rcases res_or h with B | B
  · have e := negI_yes B
    have B2 : Bnd (negI r) := by rw [e]; unfold Bnd at *; simp only; omega
    rw [negI_yes B2, e]; simp
  · rw [B]; decide
theorem kn_neg (c : Bool) (l h : Int) : kn c (-h, -l) = negI (kn c (l, h)) := by
  cases c
  · rw [kn_no rfl, kn_no rfl]; decide
  · rw [kn_yes rfl, kn_yes rfl]
    by_cases B : Bnd (l, h)
    · rw [can_yes B, negI_yes B, can_yes (by unfold Bnd at *; simp only at *; omega)]
    · rw [can_no B, can_no (by unfold Bnd at *; simp only at *; omega)]; decide
theorem rdD_res (a b : Int) : Res (rdD a b) := res_kn _ _
theorem rdD_neg (a b : Int) : rdD (-a) b = negI (rdD a b) := by
  have e1 : dvD (-a) b = -dvU a b := by have := div_up_down a b; omega
  have e2 : dvU (-a) b = -dvD a b := by have := div_up_down (-a) b; rw [Int.neg_neg] at this; omega
  unfold rdD
  rw [dvc_neg, e1, e2, ← (res_neg (dvc a b) (dvU a b)).1, ← (res_neg (dvc a b) (dvU a b)).2, ← (res_neg (dvc a b) (dvD a b)).1, ← (res_neg (dvc a b) (dvD a b)).2, kn_neg, Bool.and_comm]
theorem dvD_flip {a b : Int} (h : b ≠ 0) : dvD a (-b) = dvD (-a) b := by
  unfold dvD
  by_cases s : b < 0
  · rw [if_neg (by omega), if_pos s, Int.neg_neg]
  · rw [if_pos (by omega), if_neg s, Int.neg_neg]
theorem dvc_flip (a b : Int) : dvc a (-b) = dvc a b := by
  unfold dvc; apply decide_eq_decide.2; rw [neg_fix_iff]; constructor <;> (intro ⟨h1, h2, h3⟩; exact ⟨h1, h2, by omega⟩)
theorem rdD_flip {a b : Int} (h : b ≠ 0) : rdD a (-b) = negI (rdD a b) := by
  rw [← rdD_neg]
  have e1 : dvD a (-b) = dvD (-a) b := dvD_flip h
  have e2 : dvU a (-b) = dvU (-a) b := by
    have h1 := div_up_down a (-b)
    have h2 := div_up_down (-a) b
    have h3 := dvD_flip (a := -a) h
    omega
  unfold rdD
  rw [e1, e2, dvc_flip, dvc_neg]
theorem rin_zero : rinA (0, 0) = (-4, 4) := by decide +kernel
theorem atnF_neg {n : Int} (h : FixN n) : atnF (-n) = negI (atnF n) := by
  have h' : FixN (-n) := by unfold FixN at *; omega
  unfold atnF
  rw [if_pos h, if_pos h']
  by_cases s : n < 0
  · rw [if_neg (by omega), if_pos s, neg_neg_res (atnP_res _)]
  · by_cases z : n = 0
    · subst z
      rw [if_neg (by omega), if_neg (by omega)]
      unfold atnP
      rw [if_neg (by omega), if_neg (by omega), Int.neg_zero, rin_zero]; decide
    · rw [if_pos (by omega), if_neg s, Int.neg_neg]
theorem hul_neg {a b : Iv} (ha : Res a) (hb : Res b) : hulI (negI b) (negI a) = negI (hulI a b) := by
  rcases res_or ha with A | A
  · rcases res_or hb with B | B
    · have hB : Bnd (min a.1 b.1, max a.2 b.2) := by unfold Bnd at *; simp only; omega
      have nB : Bnd (-b.2, -b.1) := by unfold Bnd at *; simp only; omega
      have nA : Bnd (-a.2, -a.1) := by unfold Bnd at *; simp only; omega
      have e : hulI a b = (min a.1 b.1, max a.2 b.2) := by unfold hulI; rw [bnd_yes A, bnd_yes B]; exact kn_bnd hB
      rw [e, negI_yes hB, negI_yes A, negI_yes B]
      unfold hulI; rw [bnd_yes nA, bnd_yes nB]
      simp only [Bool.and_self]
      have e2 : (min (-b.2) (-a.2), max (-b.1) (-a.1)) = (-max a.2 b.2, -min a.1 b.1) := by
        apply Prod.ext <;> simp only <;> omega
      rw [e2]
      exact kn_bnd (by unfold Bnd at *; simp only at *; omega)
    · rw [B]; unfold hulI
      rw [show negI whl = whl from by decide, bnd_whl, Bool.and_false, Bool.false_and, kn_no rfl, kn_no rfl]; decide
  · rw [A]; unfold hulI
    rw [show negI whl = whl from by decide, bnd_whl, Bool.and_false, Bool.false_and, kn_no rfl, kn_no rfl]; decide
theorem atnI_neg {x : Iv} (h : Res x) : atnI (negI x) = negI (atnI x) := by
  rcases res_or h with B | B
  · have nB : Bnd (-x.2, -x.1) := by unfold Bnd at *; simp only; omega
    rw [negI_yes B, atnI_yes nB, atnI_yes B]
    simp only
    rw [atnF_neg (by unfold Bnd at B; unfold FixN; omega), atnF_neg (by unfold Bnd at B; unfold FixN; omega)]
    exact hul_neg (atnF_res _) (atnF_res _)
  · rw [B, show negI whl = whl from by decide, atnI_no whl_not]; decide
theorem sub_neg {u a : Iv} (hu : Bnd u) (ha : Res a) : negI (subI u (negI a)) = subI (negI u) a := by
  rcases res_or ha with A | A
  · have nA : Bnd (-a.2, -a.1) := by unfold Bnd at *; simp only; omega
    have nU : Bnd (-u.2, -u.1) := by unfold Bnd at *; simp only; omega
    rw [negI_yes A, negI_yes hu]
    unfold subI
    rw [bnd_yes hu, bnd_yes nA, bnd_yes nU, bnd_yes A, ← kn_neg]
    simp only [Bool.and_self]
    have e : (-(u.2 - -a.2), -(u.1 - -a.1)) = (-u.2 - a.2, -u.1 - a.1) := by apply Prod.ext <;> simp only <;> omega
    rw [e]
  · rw [A, show negI whl = whl from by decide]; unfold subI
    rw [bnd_whl, Bool.and_false, Bool.and_false, kn_no rfl, kn_no rfl]; decide
theorem add_neg {u a : Iv} (hu : Bnd u) (ha : Res a) : negI (addI (negI a) u) = addI a (negI u) := by
  rcases res_or ha with A | A
  · have nA : Bnd (-a.2, -a.1) := by unfold Bnd at *; simp only; omega
    have nU : Bnd (-u.2, -u.1) := by unfold Bnd at *; simp only; omega
    rw [negI_yes A, negI_yes hu]
    unfold addI
    rw [bnd_yes hu, bnd_yes nA, bnd_yes nU, bnd_yes A, ← kn_neg]
    simp only [Bool.and_self]
    have e : (-(-a.1 + u.2), -(-a.2 + u.1)) = (a.1 + -u.2, a.2 + -u.1) := by apply Prod.ext <;> simp only <;> omega
    rw [e]
  · rw [A, show negI whl = whl from by decide]; unfold addI
    rw [bnd_whl, Bool.false_and, Bool.false_and, kn_no rfl, kn_no rfl]; decide
/-- The model's directions below the axis. -/
theorem dir_up {y x : Int} (d : DirN y x) (s : y < 0) (h : x < -y ∧ -x < -y) : dirA y x = subI (turI (-1)) (atnI (divI (x, x) (y, y))) := by
  obtain ⟨d1, d2, d3⟩ := id d
  unfold dirA dirU
  rw [if_pos d, if_pos s, if_pos h, rdD_flip (by omega), atnI_neg (rdD_res _ _), sub_neg (by rw [turI_one]; unfold Bnd; simp) (atnI_res _), div_at d2 d1 (by omega)]
  rw [show negI (turI 1) = turI (-1) from by decide]
theorem dir_right {y x : Int} (d : DirN y x) (s : y < 0) (h : ¬ (x < -y ∧ -x < -y)) (p : 0 < x) : dirA y x = atnI (divI (y, y) (x, x)) := by
  obtain ⟨d1, d2, d3⟩ := id d
  unfold dirA dirU
  rw [if_pos d, if_pos s, if_neg h, if_neg (by omega), rdD_neg, atnI_neg (rdD_res _ _), neg_neg_res (atnI_res _), div_at d1 d2 (by omega)]
theorem dir_left {y x : Int} (d : DirN y x) (s : y < 0) (h : ¬ (x < -y ∧ -x < -y)) (p : ¬ 0 < x) : dirA y x = addI (atnI (divI (y, y) (x, x))) (turI (-2)) := by
  obtain ⟨d1, d2, d3⟩ := id d
  unfold dirA dirU
  rw [if_pos d, if_pos s, if_neg h, if_pos (by omega), rdD_neg, atnI_neg (rdD_res _ _), add_neg (by decide) (atnI_res _), div_at d1 d2 (by omega)]
  rw [show negI (turI 2) = turI (-2) from by decide]
theorem dir_up' {y x : Int} (d : DirN y x) (s : ¬ y < 0) (h : x < y ∧ -x < y) : dirA y x = subI (turI 1) (atnI (divI (x, x) (y, y))) := by
  obtain ⟨d1, d2, d3⟩ := id d
  unfold dirA dirU
  rw [if_pos d, if_neg s, if_pos h, div_at d2 d1 (by omega)]
theorem dir_right' {y x : Int} (d : DirN y x) (s : ¬ y < 0) (h : ¬ (x < y ∧ -x < y)) (p : 0 < x) : dirA y x = atnI (divI (y, y) (x, x)) := by
  obtain ⟨d1, d2, d3⟩ := id d
  unfold dirA dirU
  rw [if_pos d, if_neg s, if_neg h, if_neg (by omega), div_at d1 d2 (by omega)]
theorem dir_left' {y x : Int} (d : DirN y x) (s : ¬ y < 0) (h : ¬ (x < y ∧ -x < y)) (p : ¬ 0 < x) : dirA y x = addI (atnI (divI (y, y) (x, x))) (turI 2) := by
  obtain ⟨d1, d2, d3⟩ := id d
  unfold dirA dirU
  rw [if_pos d, if_neg s, if_neg h, if_pos (by omega), div_at d1 d2 (by omega)]
/-- The directions of a box. -/
def DirB (y x : Iv) : Prop := Bnd y ∧ Bnd x ∧ ¬ (hasI y 0 = true ∧ hasI x 0 = true) ∧ ¬ (x.1 < 0 ∧ y.1 < 0 ∧ 0 ≤ y.2)
instance (y x : Iv) : Decidable (DirB y x) := by unfold DirB; exact inferInstance
def dirI (y x : Iv) : Iv := if DirB y x then hul4 (dirA y.1 x.1) (dirA y.1 x.2) (dirA y.2 x.1) (dirA y.2 x.2) else whl
theorem hul_hul (a b c d : Iv) : hulI (hulI a b) (hulI c d) = hul4 a b c d := by
  by_cases h : Bnd a ∧ Bnd b ∧ Bnd c ∧ Bnd d
  · obtain ⟨A, B, C, D⟩ := id h
    have h1 : Bnd (min a.1 b.1, max a.2 b.2) := by unfold Bnd at *; simp only; omega
    have h2 : Bnd (min c.1 d.1, max c.2 d.2) := by unfold Bnd at *; simp only; omega
    have e1 : hulI a b = (min a.1 b.1, max a.2 b.2) := by unfold hulI; rw [bnd_yes A, bnd_yes B]; exact kn_bnd h1
    have e2 : hulI c d = (min c.1 d.1, max c.2 d.2) := by unfold hulI; rw [bnd_yes C, bnd_yes D]; exact kn_bnd h2
    rw [e1, e2, hul4_all h]
    unfold hulI
    rw [bnd_yes h1, bnd_yes h2]
    simp only [Bool.and_self]
    have e : (min (min a.1 b.1) (min c.1 d.1), max (max a.2 b.2) (max c.2 d.2)) = (min (min (min a.1 b.1) c.1) d.1, max (max (max a.2 b.2) c.2) d.2) := by
      apply Prod.ext <;> simp only <;> omega
    rw [e]; rfl
  · rw [hul4_none h]
    unfold hulI
    by_cases k1 : Bnd a ∧ Bnd b
    · have k2 : (bnd c && bnd d) = false := by
        by_cases C : Bnd c
        · rw [bnd_no (x := d) (fun D => h ⟨k1.1, k1.2, C, D⟩), Bool.and_false]
        · rw [bnd_no C, Bool.false_and]
      rw [k2, kn_no (c := false) (x := (min c.1 d.1, max c.2 d.2)) rfl, bnd_whl, Bool.and_false, kn_no rfl]
    · have k2 : (bnd a && bnd b) = false := by
        by_cases A : Bnd a
        · rw [bnd_no (x := b) (fun B => k1 ⟨A, B⟩), Bool.and_false]
        · rw [bnd_no A, Bool.false_and]
      rw [k2, kn_no (c := false) (x := (min a.1 b.1, max a.2 b.2)) rfl, bnd_whl, Bool.false_and, kn_no rfl]
end Go.Proofs.Ytmikjgbojknlnaa
