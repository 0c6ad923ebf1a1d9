/- Plain arithmetic of intervals: pairs of ends, whole unless bounded. Conditions: as each lemma says. -/
import Derived.Test.YtfikgbamnlmglaaNumM
namespace Go.Proofs.Ytfikgbamnlmglaa
open Go.RowKit
set_option linter.unusedVariables false
set_option maxRecDepth 100000

/-- An interval: its lower and its upper end. -/
abbrev Iv := Int × Int
/-- Is an interval bounded? -/
def Bnd (x : Iv) : Prop := -1152921504606846976 < x.1 ∧ x.1 ≤ x.2 ∧ x.2 < 1152921504606846976
instance (x : Iv) : Decidable (Bnd x) := by unfold Bnd; infer_instance
def bnd (x : Iv) : Bool := decide (Bnd x)
def whl : Iv := (-1152921504606846976, 1152921504606846976)
theorem bnd_yes {x : Iv} (h : Bnd x) : bnd x = true := decide_eq_true h
theorem bnd_no {x : Iv} (h : ¬ Bnd x) : bnd x = false := decide_eq_false h
theorem whl_not : ¬ Bnd whl := by unfold Bnd whl; simp
theorem bnd_whl : bnd whl = false := bnd_no whl_not
/-- What stands for an interval whatever its form. -/
def can (x : Iv) : Iv := if Bnd x then x else whl
theorem can_yes {x : Iv} (h : Bnd x) : can x = x := if_pos h
theorem can_no {x : Iv} (h : ¬ Bnd x) : can x = whl := if_neg h
theorem can_can (x : Iv) : can (can x) = can x := by
  by_cases h : Bnd x
  · rw [can_yes h, can_yes h]
  · rw [can_no h, can_no whl_not]
theorem bnd_can (x : Iv) : bnd (can x) = bnd x := by
  by_cases h : Bnd x
  · rw [can_yes h]
  · rw [can_no h, bnd_whl, bnd_no h]
/-- The interval with two ends, if they are known. -/
def kn (c : Bool) (x : Iv) : Iv := if c = true then can x else whl
theorem kn_yes {c : Bool} {x : Iv} (h : c = true) : kn c x = can x := if_pos h
theorem kn_no {c : Bool} {x : Iv} (h : c = false) : kn c x = whl := if_neg (by simp [h])
/-- What every result is. -/
def InI (x : Iv) : Prop := -1152921504606846976 ≤ x.1 ∧ x.1 ≤ x.2 ∧ x.2 ≤ 1152921504606846976
theorem can_in (x : Iv) : InI (can x) := by
  by_cases h : Bnd x
  · rw [can_yes h]; unfold Bnd at h; unfold InI; omega
  · rw [can_no h]; unfold InI whl; simp
theorem kn_in (c : Bool) (x : Iv) : InI (kn c x) := by
  cases c
  · rw [kn_no rfl]; unfold InI whl; simp
  · rw [kn_yes rfl]; exact can_in x
theorem whl_in : InI whl := by unfold InI whl; simp
/-- Both ends are int64. -/
def Ok (x : Iv) : Prop := In64 x.1 ∧ In64 x.2
theorem inI_ok {x : Iv} (h : InI x) : Ok x := by unfold InI at h; unfold Ok In64; omega
/-- A result is bounded or whole. -/
def Res (x : Iv) : Prop := can x = x
theorem res_can (x : Iv) : Res (can x) := can_can x
theorem res_kn (c : Bool) (x : Iv) : Res (kn c x) := by
  cases c
  · rw [kn_no rfl]; exact can_no whl_not
  · rw [kn_yes rfl]; exact can_can x
theorem res_whl : Res whl := can_no whl_not
theorem res_in' {x : Iv} (h : Res x) : InI x := by rw [← h]; exact can_in x
theorem res_ok {x : Iv} (h : Res x) : Ok x := inI_ok (res_in' h)
theorem res_not {x : Iv} (h : Res x) (k : ¬ Bnd x) : x = whl := by rw [← h]; exact can_no k

def addI (x y : Iv) : Iv := kn (bnd x && bnd y) (x.1 + y.1, x.2 + y.2)
def subI (x y : Iv) : Iv := kn (bnd x && bnd y) (x.1 - y.2, x.2 - y.1)
def negI (x : Iv) : Iv := kn (bnd x) (-x.2, -x.1)
/-- The interval of a result that is rounded down and up. -/
def rnd (c : Bool) (l h : Int) : Iv := kn (resB c l && resB c h) (resI c l, resI c h)
def flr (n d : Int) : Iv := rnd (okD d) (quoW (n * 4294967296) d) (upW (n * 4294967296) d)
-- (floor and ceiling of a quotient; the name stands for both roundings)
def flq (n d : Int) : Iv := kn (resB (okD d) (quoW (n * 4294967296) d) && resB (okD d) (upW (n * 4294967296) d)) (resI (okD d) (quoW (n * 4294967296) d), resI (okD d) (upW (n * 4294967296) d))
def rdM (a b : Int) : Iv := kn (resB (mdc a b) (a * b / 4294967296) && resB (mdc a b) (cei (a * b) 4294967296)) (resI (mdc a b) (a * b / 4294967296), resI (mdc a b) (cei (a * b) 4294967296))
def rdD (a b : Int) : Iv := kn (resB (dvc a b) (dvD a b) && resB (dvc a b) (dvU a b)) (resI (dvc a b) (dvD a b), resI (dvc a b) (dvU a b))
def quoI (n d : Int) : Iv := if d < 0 then (if n = -9223372036854775808 ∨ d = -9223372036854775808 then whl else flq (-n) (-d)) else flq n d
def intI (n : Int) : Iv := quoI n 1
def minI (x y : Iv) : Iv := kn (bnd x && bnd y) (min x.1 y.1, min x.2 y.2)
def maxI (x y : Iv) : Iv := kn (bnd x && bnd y) (max x.1 y.1, max x.2 y.2)
def hulI (x y : Iv) : Iv := kn (bnd x && bnd y) (min x.1 y.1, max x.2 y.2)
def halfI (x : Iv) : Iv := kn (bnd x) (x.1 / 2, (x.2 + 1) / 2)
def absI (x : Iv) : Iv := maxI (intI 0) (maxI x (negI x))
/-- The hull of four intervals. -/
def hul4 (a b c d : Iv) : Iv := kn (bnd a && bnd b && bnd c && bnd d) (min (min (min a.1 b.1) c.1) d.1, max (max (max a.2 b.2) c.2) d.2)
def mulI (x y : Iv) : Iv := if Bnd x ∧ Bnd y then hul4 (rdM x.1 y.1) (rdM x.1 y.2) (rdM x.2 y.1) (rdM x.2 y.2) else whl
def hasI (x : Iv) (n : Int) : Bool := decide (¬ Bnd x ∨ (x.1 ≤ n ∧ n ≤ x.2))
def divI (x y : Iv) : Iv := if Bnd x ∧ Bnd y ∧ ¬ (y.1 ≤ 0 ∧ 0 ≤ y.2) then hul4 (rdD x.1 y.1) (rdD x.1 y.2) (rdD x.2 y.1) (rdD x.2 y.2) else whl
def sqrI (x : Iv) : Iv := kn (resB (mdc (absI x).1 (absI x).1) ((absI x).1 * (absI x).1 / 4294967296) && resB (mdc (absI x).2 (absI x).2) (cei ((absI x).2 * (absI x).2) 4294967296) && bnd x)
  (resI (mdc (absI x).1 (absI x).1) ((absI x).1 * (absI x).1 / 4294967296), resI (mdc (absI x).2 (absI x).2) (cei ((absI x).2 * (absI x).2) 4294967296))
def sqrtI (x : Iv) : Iv := kn (resB (okR x.1) (rtD x.1) && resB (okR x.2) (rtU x.2) && bnd x) (resI (okR x.1) (rtD x.1), resI (okR x.2) (rtU x.2))
def olpI (x y : Iv) : Bool := decide ((can x).1 ≤ (can y).2 ∧ (can y).1 ≤ (can x).2)
def metI (x y : Iv) : Iv := if olpI x y = true then (max (can x).1 (can y).1, min (can x).2 (can y).2) else (0, 0)
def insI (x y : Iv) : Bool := decide ((can y).1 ≤ (can x).1 ∧ (can x).2 ≤ (can y).2)
def lesI (x y : Iv) : Int := if Bnd x ∧ Bnd y then (if x.2 < y.1 then 1 else if y.2 ≤ x.1 then 0 else 2) else 2
def widI (x : Iv) : Int := if Bnd x then x.2 - x.1 else -1
def midI (x : Iv) : Int := if Bnd x then (x.1 + x.2) / 2 else 0
theorem mkI_kn (x : Iv) : kn true x = can x := rfl
theorem kn_bnd {x : Iv} (h : Bnd x) : kn true x = x := can_yes h
/-- Whole numbers: an integer is a quotient by 1. -/
theorem cei_one (v : Int) : cei v 1 = v := by unfold cei; omega
theorem intI_flq (n : Int) : intI n = flq n 1 := by unfold intI quoI; rw [if_neg (by omega)]
theorem flq_one (n : Int) : flq n 1 = kn (decide (InF (n * 4294967296))) (n * 4294967296, n * 4294967296) := by
  unfold flq quoW upW
  rw [if_pos (by omega), if_pos (by omega), cei_one, Int.ediv_one]
  have o : okD 1 = true := rfl
  rw [o]
  by_cases h : InF (n * 4294967296)
  · rw [(res_yes rfl h).1, (res_yes rfl h).2, decide_eq_true h]; rfl
  · rw [(res_over h).1, (res_over h).2, decide_eq_false h]; rfl
theorem intI_yes {n : Int} (h0 : -268435455 ≤ n) (h1 : n ≤ 268435455) : intI n = (n * 4294967296, n * 4294967296) := by
  rw [intI_flq, flq_one, decide_eq_true (by unfold InF; omega), kn_yes rfl, can_yes (by unfold Bnd; simp; omega)]
theorem intI_no {n : Int} (h : n < -268435455 ∨ 268435455 < n) : intI n = whl := by
  rw [intI_flq, flq_one]
  have : ¬ Bnd (n * 4294967296, n * 4294967296) := by unfold Bnd; simp; omega
  cases decide (InF (n * 4294967296))
  · exact kn_no rfl
  · rw [kn_yes rfl, can_no this]
/-- The least and the greatest absolute value. -/
def absN (x : Iv) : Int := if x.1 ≤ 0 ∧ 0 ≤ x.2 then 0 else min (max x.1 (-x.1)) (max x.2 (-x.2))
def absF (x : Iv) : Int := max (max x.1 (-x.1)) (max x.2 (-x.2))
theorem negI_yes {x : Iv} (h : Bnd x) : negI x = (-x.2, -x.1) := by
  unfold negI; rw [kn_yes (bnd_yes h), can_yes (by unfold Bnd at *; simp; omega)]
theorem abs_ends {x : Iv} (h : Bnd x) : Bnd (absN x, absF x) ∧ 0 ≤ absN x := by
  unfold Bnd absN absF at *
  simp only
  split <;> omega
theorem absI_yes {x : Iv} (h : Bnd x) : absI x = (absN x, absF x) := by
  have hn := negI_yes h
  have bn : Bnd (negI x) := by rw [hn]; unfold Bnd at *; simp; omega
  unfold absI
  rw [intI_yes (by omega) (by omega)]
  have e1 : maxI x (negI x) = (max x.1 (-x.2), max x.2 (-x.1)) := by
    unfold maxI
    rw [bnd_yes h, bnd_yes bn, hn, Bool.and_self, kn_yes rfl, can_yes (by unfold Bnd at *; simp only; omega)]
  rw [e1]
  unfold maxI
  have b2 : Bnd (max x.1 (-x.2), max x.2 (-x.1)) := by unfold Bnd at *; simp only; omega
  have b0 : Bnd (0 * 4294967296, 0 * 4294967296) := by unfold Bnd; simp
  rw [bnd_yes b2, bnd_yes b0, Bool.and_self, kn_yes rfl, can_yes (by unfold Bnd at *; simp only; omega)]
  unfold absN absF
  simp only [Prod.mk.injEq]
  unfold Bnd at h
  constructor
  · split <;> omega
  · omega
theorem absI_no {x : Iv} (h : ¬ Bnd x) : absI x = whl := by
  unfold absI
  have e : negI x = whl := kn_no (bnd_no h)
  have e1 : maxI x (negI x) = whl := by unfold maxI; rw [bnd_no h]; exact kn_no rfl
  rw [e1]; unfold maxI; rw [bnd_whl]; exact kn_no (by simp)
theorem absI_res (x : Iv) : Res (absI x) := res_kn _ _
theorem dbl_add {x : Iv} : addI x x = kn (bnd x) (2 * x.1, 2 * x.2) := by
  unfold addI; rw [Bool.and_self]
  have a : x.1 + x.1 = 2 * x.1 := by omega
  have b : x.2 + x.2 = 2 * x.2 := by omega
  rw [a, b]
theorem sqrI_yes {x : Iv} (h : Bnd x) : sqrI x = kn (resB (mdc (absN x) (absN x)) (absN x * absN x / 4294967296) && resB (mdc (absF x) (absF x)) (cei (absF x * absF x) 4294967296))
    (resI (mdc (absN x) (absN x)) (absN x * absN x / 4294967296), resI (mdc (absF x) (absF x)) (cei (absF x * absF x) 4294967296)) := by
  unfold sqrI; rw [absI_yes h, bnd_yes h, Bool.and_true]
theorem sqrI_no {x : Iv} (h : ¬ Bnd x) : sqrI x = whl := by
  unfold sqrI; rw [bnd_no h, Bool.and_false]; exact kn_no rfl
theorem sqrtI_yes {x : Iv} (h : Bnd x) (s : 0 ≤ x.1) : sqrtI x = can (rtD x.1, rtU x.2) := by
  unfold Bnd at h
  unfold sqrtI
  have f1 : InF (rtD x.1) := by have := rtD_in (a := x.1) (by omega); unfold InF; omega
  have f2 : InF (rtU x.2) := by have := rtU_in (a := x.2) (by omega); unfold InF; omega
  have o1 : okR x.1 = true := decide_eq_true (by omega)
  have o2 : okR x.2 = true := decide_eq_true (by omega)
  rw [(res_yes o1 f1).1, (res_yes o1 f1).2, (res_yes o2 f2).1, (res_yes o2 f2).2, bnd_yes h]; rfl
theorem sqrtI_no {x : Iv} (h : ¬ Bnd x ∨ x.1 < 0) : sqrtI x = whl := by
  unfold sqrtI
  rcases h with h | h
  · rw [bnd_no h, Bool.and_false]; exact kn_no rfl
  · have o1 : okR x.1 = false := decide_eq_false (by omega)
    rw [(res_none o1).2]; exact kn_no rfl
theorem cei_le {v d : Int} (d0 : 1 ≤ d) : v / d ≤ cei v d := by
  by_cases r : v % d = 0
  · rw [cei_exact d0 r]; omega
  · rw [cei_more d0 r]; omega
/-- Four roundings, one after the other, as the model makes them. -/
theorem hul4_all {a b c d : Iv} (h : Bnd a ∧ Bnd b ∧ Bnd c ∧ Bnd d) : hul4 a b c d = can (min (min (min a.1 b.1) c.1) d.1, max (max (max a.2 b.2) c.2) d.2) := by
  unfold hul4; rw [bnd_yes h.1, bnd_yes h.2.1, bnd_yes h.2.2.1, bnd_yes h.2.2.2]; rfl
theorem hul4_none {a b c d : Iv} (h : ¬ (Bnd a ∧ Bnd b ∧ Bnd c ∧ Bnd d)) : hul4 a b c d = whl := by
  unfold hul4 bnd
  apply kn_no
  rw [Bool.eq_false_iff]; intro k; apply h; simpa [and_assoc] using k
/-- A pair of roundings in the right order. -/
theorem hul4_raw {a b c d : Iv} (ha : a.1 ≤ a.2) (hb : b.1 ≤ b.2) (hc : c.1 ≤ c.2) (hd : d.1 ≤ d.2) :
    hul4 (can a) (can b) (can c) (can d) = can (min (min (min a.1 b.1) c.1) d.1, max (max (max a.2 b.2) c.2) d.2) := by
  by_cases h : Bnd a ∧ Bnd b ∧ Bnd c ∧ Bnd d
  · rw [can_yes h.1, can_yes h.2.1, can_yes h.2.2.1, can_yes h.2.2.2, hul4_all h]
  · rw [hul4_none (by
      intro k; apply h
      refine ⟨?_, ?_, ?_, ?_⟩
      · by_cases q : Bnd a
        · exact q
        · rw [can_no q] at k; exact absurd k.1 whl_not
      · by_cases q : Bnd b
        · exact q
        · rw [can_no q] at k; exact absurd k.2.1 whl_not
      · by_cases q : Bnd c
        · exact q
        · rw [can_no q] at k; exact absurd k.2.2.1 whl_not
      · by_cases q : Bnd d
        · exact q
        · rw [can_no q] at k; exact absurd k.2.2.2 whl_not)]
    rw [can_no]
    intro k; apply h
    unfold Bnd at *
    simp only at k
    omega
theorem hul4_lost {a b c d : Iv} (h : a = whl ∨ b = whl ∨ c = whl ∨ d = whl) : hul4 a b c d = whl := by
  apply hul4_none
  intro k
  rcases h with h | h | h | h
  · rw [h] at k; exact whl_not k.1
  · rw [h] at k; exact whl_not k.2.1
  · rw [h] at k; exact whl_not k.2.2.1
  · rw [h] at k; exact whl_not k.2.2.2
theorem rdM_no {a b : Int} (h : ¬ (resB (mdc a b) (a * b / 4294967296) = true ∧ resB (mdc a b) (cei (a * b) 4294967296) = true)) : rdM a b = whl := by
  apply kn_no; rw [Bool.eq_false_iff]; intro k; apply h; simpa using k
theorem rdM_yes {a b : Int} (h : resB (mdc a b) (a * b / 4294967296) = true) (k : resB (mdc a b) (cei (a * b) 4294967296) = true) :
    rdM a b = can (resI (mdc a b) (a * b / 4294967296), resI (mdc a b) (cei (a * b) 4294967296)) ∧ resI (mdc a b) (a * b / 4294967296) ≤ resI (mdc a b) (cei (a * b) 4294967296) := by
  refine ⟨kn_yes (by rw [h, k]; rfl), ?_⟩
  have h' := of_decide_eq_true h
  have k' := of_decide_eq_true k
  unfold resI
  rw [if_pos h', if_pos k']
  exact cei_le (by omega)
theorem rdD_no {a b : Int} (h : ¬ (resB (dvc a b) (dvD a b) = true ∧ resB (dvc a b) (dvU a b) = true)) : rdD a b = whl := by
  apply kn_no; rw [Bool.eq_false_iff]; intro k; apply h; simpa using k
theorem dv_le {a b : Int} (h : dvc a b = true) : dvD a b ≤ dvU a b := by
  have z := (of_decide_eq_true h).2.2
  unfold dvD dvU
  split
  · exact cei_le (by omega)
  · exact cei_le (by omega)
theorem rdD_yes {a b : Int} (h : resB (dvc a b) (dvD a b) = true) (k : resB (dvc a b) (dvU a b) = true) :
    rdD a b = can (resI (dvc a b) (dvD a b), resI (dvc a b) (dvU a b)) ∧ resI (dvc a b) (dvD a b) ≤ resI (dvc a b) (dvU a b) := by
  refine ⟨kn_yes (by rw [h, k]; rfl), ?_⟩
  have h' := of_decide_eq_true h
  have k' := of_decide_eq_true k
  unfold resI
  rw [if_pos h', if_pos k']
  exact dv_le h'.1
end Go.Proofs.Ytfikgbamnlmglaa
