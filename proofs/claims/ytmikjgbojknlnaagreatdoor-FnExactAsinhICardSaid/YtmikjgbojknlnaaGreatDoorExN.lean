/- Numbers of exponentials, logarithms, hyperbolic functions and powers. Conditions: as each lemma says. -/
import Derived.Test.YtmikjgbojknlnaaGreatDoorNumX
import Derived.Test.YtmikjgbojknlnaaGreatDoorNumQ
import Derived.Test.YtmikjgbojknlnaaGreatDoorWideZi
namespace Go.Proofs.YtmikjgbojknlnaaGreatDoor
open Go.ChangeShapes Go.WideShapes Go.ChangeAt Go.RowKit
set_option linter.unusedVariables false
set_option maxRecDepth 100000
set_option linter.unusedSimpArgs false
set_option maxHeartbeats 1000000

/-- Multiples of the logarithm of 2. -/
def lnP (k : Int) : Iv := (k * 1598288580650331957 / 536870912, cei (k * 1598288580650331958) 536870912)
def ln2 (k : Int) : Iv := if k < -64 ∨ 64 < k then whl else if k < 0 then negI (lnP (-k)) else lnP k
theorem lnP_in {k : Int} (h0 : 0 ≤ k) (h1 : k ≤ 64) : 0 ≤ (lnP k).1 ∧ (lnP k).1 ≤ (lnP k).2 ∧ (lnP k).2 ≤ 200000000000 := by
  unfold lnP cei; simp only; omega
theorem lnP_bnd {k : Int} (h0 : 0 ≤ k) (h1 : k ≤ 64) : Bnd (lnP k) := by have := lnP_in h0 h1; unfold Bnd; omega
theorem ln2_out {k : Int} (h : k < -64 ∨ 64 < k) : ln2 k = whl := if_pos h
theorem ln2_neg {k : Int} (h : k < 0) (h1 : -64 ≤ k) : ln2 k = negI (lnP (-k)) := by unfold ln2; rw [if_neg (by omega), if_pos h]
theorem ln2_pos {k : Int} (h : 0 ≤ k) (h1 : k ≤ 64) : ln2 k = lnP k := by unfold ln2; rw [if_neg (by omega), if_neg (by omega)]
theorem ln2_zero : ln2 0 = intI 0 := by rw [int_zero, ln2_pos (by omega) (by omega)]; rfl
theorem ln2_res (k : Int) : Res (ln2 k) := by
  unfold ln2; split
  · exact res_whl
  · split
    · exact neg_res _
    · exact can_yes (lnP_bnd (by omega) (by omega))
theorem lnP_can {k : Int} (h0 : 0 ≤ k) (h1 : k ≤ 64) : kn true ((lnP k).1, (lnP k).2) = lnP k := kn_bnd (lnP_bnd h0 h1)
theorem ln_down {k : Int} (h0 : 0 ≤ k) (h1 : k ≤ 64) : resI (okD 536870912) (quoW (k * 1598288580650331957) 536870912) = (lnP k).1 ∧ resB (okD 536870912) (quoW (k * 1598288580650331957) 536870912) = true := by
  have b := lnP_in h0 h1
  have e : quoW (k * 1598288580650331957) 536870912 = (lnP k).1 := by unfold quoW; rw [if_pos (by omega)]; rfl
  rw [e]; unfold resI resB okD InF; exact ⟨if_pos (by simp; omega), decide_eq_true (by simp; omega)⟩
theorem ln_up {k : Int} (h0 : 0 ≤ k) (h1 : k ≤ 64) : resI (okD 536870912) (upW (k * 1598288580650331958) 536870912) = (lnP k).2 ∧ resB (okD 536870912) (upW (k * 1598288580650331958) 536870912) = true := by
  have b := lnP_in h0 h1
  have e : upW (k * 1598288580650331958) 536870912 = (lnP k).2 := by unfold upW; rw [if_pos (by omega)]; rfl
  rw [e]; unfold resI resB okD InF; exact ⟨if_pos (by simp; omega), decide_eq_true (by simp; omega)⟩
theorem shr_29 (v : Int) : shrW v 29 = v / 536870912 := by
  unfold shrW; rw [if_pos (by omega)]; rfl
theorem mf_ln {k : Int} (h0 : 0 ≤ k) (h1 : k ≤ 64) : mfI k 1598288580650331957 29 = (lnP k).1 := by
  have b := lnP_in h0 h1
  unfold mfI; rw [if_pos (by omega), shr_29]; exact if_pos (by unfold lnP at b; simp only at b; unfold In64; omega)
theorem mf_lnU {k : Int} (h0 : 0 ≤ k) (h1 : k ≤ 64) : mfI (-k) 1598288580650331958 29 = -(lnP k).2 := by
  have e : (lnP k).2 = -(-k * 1598288580650331958 / 536870912) := by unfold lnP cei; simp only; rw [Int.neg_mul]
  have b := lnP_in h0 h1
  rw [e] at b ⊢
  unfold mfI; rw [if_pos (by omega), shr_29, Int.neg_neg]; exact if_pos (by unfold In64; omega)

/-- Exponentials. -/
def expK (n : Int) : Int := (2 * n + 2977044472) / 5954088944
def expR (n : Int) : Iv := subI (n, n) (ln2 (expK n))
def expL (r : Iv) : Nat → Iv
  | 0 => intI 1
  | j + 1 => addI (intI 1) (divI (mulI r (expL r j)) (intI (9 - (j : Int))))
theorem expL_res (r : Iv) (j : Nat) : Res (expL r j) := by cases j; exact int_res _; exact add_res _ _
def expS (r : Iv) : Iv := addI (expL r 9) tin
/-- Ends times a power of 2. -/
def shfI (x : Iv) (k : Int) : Iv :=
  if k < 0 then can (x.1 / 2 ^ (-k).toNat, -(-x.2 / 2 ^ (-k).toNat)) else can (IntKind.i64.wrap (x.1 * 2 ^ k.toNat), IntKind.i64.wrap (x.2 * 2 ^ k.toNat))
theorem shf_res (x : Iv) (k : Int) : Res (shfI x k) := by unfold shfI; split; exact res_can _; exact res_can _
def ExpN (n : Int) : Prop := -98784247808 ≤ n ∧ n ≤ 85899345920
instance (n : Int) : Decidable (ExpN n) := by unfold ExpN; exact inferInstance
def expF (n : Int) : Iv := if ExpN n then shfI (expS (expR n)) (expK n) else if -1152921504606846976 ≤ n ∧ n < -98784247808 then (0, 1) else whl
theorem expF_yes {n : Int} (h : ExpN n) : expF n = shfI (expS (expR n)) (expK n) := if_pos h
theorem expF_low {n : Int} (h : InF n) (k : n < -98784247808) : expF n = (0, 1) := by unfold expF; unfold InF at h; rw [if_neg (by unfold ExpN; omega), if_pos (by omega)]
theorem expF_no {n : Int} (h : ¬ InF n ∨ 85899345920 < n) : expF n = whl := by unfold expF; unfold InF at h; rw [if_neg (by unfold ExpN; omega), if_neg (by omega)]
theorem expF_res (n : Int) : Res (expF n) := by
  unfold expF; split
  · exact shf_res _ _
  · split
    · exact can_yes (by unfold Bnd; simp)
    · exact res_whl
theorem expK_in {n : Int} (h : ExpN n) : -33 ≤ expK n ∧ expK n ≤ 29 := by unfold expK; unfold ExpN at h; omega
theorem md_expK {n : Int} (h : ExpN n) : mdI (2 * n + 2977044472) 1 5954088944 = expK n := by
  unfold ExpN at h
  unfold mdI; rw [if_pos (by omega)]; unfold intW; rw [if_pos (by unfold In64; omega), Int.mul_one]; rfl
theorem expK_tdiv {n : Int} (h : ExpN n) : ((2 * n + 2977044472).tmod 5954088944 < 0 → (2 * n + 2977044472).tdiv 5954088944 - 1 = expK n) ∧ (¬ (2 * n + 2977044472).tmod 5954088944 < 0 → (2 * n + 2977044472).tdiv 5954088944 = expK n) := by
  unfold expK; generalize 2 * n + 2977044472 = v
  have a := Int.tmod_add_mul_tdiv v 5954088944
  have b := Int.emod_add_mul_ediv v 5954088944
  have c := Int.emod_nonneg v (show (5954088944 : Int) ≠ 0 by omega)
  have d := Int.emod_lt_of_pos v (show (0 : Int) < 5954088944 by omega)
  have e : -5954088944 < v.tmod 5954088944 := by
    have := Int.lt_tmod_of_pos v (show (0 : Int) < 5954088944 by omega); omega
  have f : v.tmod 5954088944 < 5954088944 := Int.tmod_lt_of_pos v (by omega)
  omega
theorem shf_neg {x : Iv} {k : Int} (h : k < 0) : shfI x k = can (x.1 / 2 ^ (-k).toNat, -(-x.2 / 2 ^ (-k).toNat)) := if_pos h
theorem shf_pos {x : Iv} {k : Int} (h : 0 ≤ k) : shfI x k = can (IntKind.i64.wrap (x.1 * 2 ^ k.toNat), IntKind.i64.wrap (x.2 * 2 ^ k.toNat)) := if_neg (by omega)
theorem pw_le {a b : Nat} (h : a ≤ b) : (2 : Int) ^ a ≤ 2 ^ b := by
  have := Nat.pow_le_pow_right (show 0 < 2 by omega) h
  have e : ((2 ^ a : Nat) : Int) ≤ ((2 ^ b : Nat) : Int) := by omega
  simpa using e
theorem pw_lt {a b : Nat} (h : a < b) : 2 * (2 : Int) ^ a ≤ 2 ^ b := by
  have := pw_le (a := a + 1) (b := b) h
  rw [Int.pow_succ] at this; omega
theorem pw_one (a : Nat) : (1 : Int) ≤ 2 ^ a := pw_le (a := 0) (Nat.zero_le a)
theorem pw_add (a b : Nat) : (2 : Int) ^ (a + b) = 2 ^ a * 2 ^ b := Int.pow_add _ _ _
theorem neg_div_in {v : Int} (h : In64 v) (p : Nat) (h0 : -9223372036854775807 ≤ v) : In64 (-(v / 2 ^ p)) := by
  have q := pw_one p
  generalize (2 : Int) ^ p = d at q
  unfold In64 at *
  have a : v / d ≤ 9223372036854775807 := by
    have := Int.ediv_le_ediv (show (0 : Int) < d by omega) h.2
    have e : 9223372036854775807 / d ≤ 9223372036854775807 := Int.ediv_le_self _ (by omega)
    omega
  have b : -9223372036854775807 ≤ v / d := by
    rw [Int.le_ediv_iff_mul_le (by omega)]
    have : 9223372036854775807 * 1 ≤ 9223372036854775807 * d := Int.mul_le_mul_of_nonneg_left q (by omega)
    rw [Int.neg_mul]; omega
  omega

/-- Logarithms. -/
def logS (n : Int) : Nat := if 3 * 2 ^ (Lib.bitLen n.toNat) ≤ 4 * n then Lib.bitLen n.toNat else Lib.bitLen n.toNat - 1
def logE (n : Int) : Int := (logS n : Int) - 32
def logM (n : Int) : Iv := shfI (n, n) (-logE n)
def logZ (n : Int) : Iv := divI (subI (logM n) (intI 1)) (addI (logM n) (intI 1))
def logL (q : Iv) : Nat → Iv
  | 0 => quoI 1 11
  | j + 1 => addI (quoI 1 (9 - 2 * (j : Int))) (mulI q (logL q j))
theorem logL_res (q : Iv) (j : Nat) : Res (logL q j) := by cases j; exact quo_res _ _; exact add_res _ _
def logW (z : Iv) : Iv := addI (mulI (mulI (intI 2) z) (logL (sqrI z) 5)) tin
def LogN (n : Int) : Prop := 0 < n ∧ n ≤ 1152921504606846976
instance (n : Int) : Decidable (LogN n) := by unfold LogN; exact inferInstance
def logF (n : Int) : Iv := if LogN n then addI (ln2 (logE n)) (logW (logZ n)) else whl
theorem logF_yes {n : Int} (h : LogN n) : logF n = addI (ln2 (logE n)) (logW (logZ n)) := if_pos h
theorem logF_no {n : Int} (h : ¬ LogN n) : logF n = whl := if_neg h
theorem logF_res (n : Int) : Res (logF n) := by unfold logF; split; exact add_res _ _; exact res_whl
theorem len_log {n : Int} (h : LogN n) : (2 : Int) ^ (Lib.bitLen n.toNat - 1) ≤ n ∧ n < 2 ^ Lib.bitLen n.toNat ∧ 1 ≤ Lib.bitLen n.toNat ∧ Lib.bitLen n.toNat ≤ 61 := by
  unfold LogN at h
  obtain ⟨m, e, l, a, b⟩ := lenW_spec (x := n) (by unfold InU; omega) (by omega)
  unfold lenW at e
  have k : Lib.bitLen n.toNat = m + 1 := by omega
  rw [k]
  refine ⟨a, b, by omega, ?_⟩
  by_cases c : m + 1 ≤ 61
  · exact c
  · have := pw_le (a := 61) (b := m) (by omega)
    have f : (2 : Int) ^ 61 = 2305843009213693952 := by rfl
    omega
/-- What the number of binary digits of a logarithm is known by. -/
theorem logS_in {n : Int} (h : LogN n) : 2 * n < 3 * 2 ^ logS n ∧ 3 * 2 ^ logS n ≤ 4 * n ∧ logS n ≤ 61 := by
  obtain ⟨a, b, c, d⟩ := len_log h
  have e : (2 : Int) ^ Lib.bitLen n.toNat = 2 * 2 ^ (Lib.bitLen n.toNat - 1) := by
    have : Lib.bitLen n.toNat = (Lib.bitLen n.toNat - 1) + 1 := by omega
    rw [show (2 : Int) ^ Lib.bitLen n.toNat = 2 ^ ((Lib.bitLen n.toNat - 1) + 1) by rw [← this], Int.pow_succ]; omega
  have p := pw_one (Lib.bitLen n.toNat - 1)
  by_cases k : 3 * 2 ^ (Lib.bitLen n.toNat) ≤ 4 * n
  · rw [show logS n = Lib.bitLen n.toNat from if_pos k]
    generalize (2 : Int) ^ (Lib.bitLen n.toNat - 1) = q at a e p
    rw [e] at b k ⊢; omega
  · rw [show logS n = Lib.bitLen n.toNat - 1 from if_neg k]
    generalize (2 : Int) ^ (Lib.bitLen n.toNat - 1) = q at a e p ⊢
    rw [e] at b k; omega
/-- The model's first search: is the part too great? -/
theorem log_great {n : Int} (h : LogN n) (e : Nat) : 6442450944 ≤ n / 2 ^ e ↔ (e : Int) < logE n := by
  obtain ⟨a, b, _⟩ := logS_in h
  have p := pw_one e
  rw [Int.le_ediv_iff_mul_le (by omega)]
  unfold logE
  have m : (2 : Int) ^ (32 + e) = 4294967296 * 2 ^ e := by rw [pw_add]; rfl
  constructor
  · intro k
    by_cases c : 32 + e < logS n
    · omega
    · have := pw_le (a := logS n) (b := 32 + e) (by omega)
      omega
  · intro k
    have := pw_lt (a := 32 + e) (b := logS n) (by omega)
    omega
/-- The second one: is it too small? -/
theorem log_small {n : Int} (h : LogN n) (i : Nat) (hi : i ≤ 32) : n * 2 ^ i < 3221225472 ↔ logE n < -(i : Int) := by
  obtain ⟨a, b, _⟩ := logS_in h
  have p := pw_one i
  unfold logE
  have m : (2 : Int) ^ (32 - i) * 2 ^ i = 4294967296 := by rw [← pw_add, Nat.sub_add_cancel hi]; rfl
  have q := pw_one (32 - i)
  constructor
  · intro k
    by_cases c : logS n < 32 - i
    · omega
    · have d := pw_le (a := 32 - i) (b := logS n) (by omega)
      have f : 3 * 2 ^ (32 - i) ≤ 4 * n := by omega
      have g := Int.mul_le_mul_of_nonneg_right f (show (0 : Int) ≤ 2 ^ i by omega)
      rw [Int.mul_assoc, m, Int.mul_assoc] at g; omega
  · intro k
    have d := pw_lt (a := logS n) (b := 32 - i) (by omega)
    have f : 4 * n < 3 * 2 ^ (32 - i) := by omega
    have g := Int.mul_lt_mul_of_pos_right f (show (0 : Int) < 2 ^ i by omega)
    rw [Int.mul_assoc, Int.mul_assoc, m] at g; omega
theorem log_enough {n : Int} (h : LogN n) (e : Nat) (k : (e : Int) = logE n) : 3221225472 ≤ n / 2 ^ e := by
  obtain ⟨a, b, _⟩ := logS_in h
  have p := pw_one e
  rw [Int.le_ediv_iff_mul_le (by omega)]
  unfold logE at k
  have m : (2 : Int) ^ (32 + e) = 4294967296 * 2 ^ e := by rw [pw_add]; rfl
  have : logS n = 32 + e := by omega
  rw [this] at b; omega
/-- The program's test: is half of the part nearer to 1? -/
theorem log_half {n : Int} (h : LogN n) : (6442450944 ≤ (shfI (n, n) (33 - lenW n)).1 ↔ logE n = lenW n - 32) ∧ (¬ 6442450944 ≤ (shfI (n, n) (33 - lenW n)).1 → logE n = lenW n - 33) := by
  obtain ⟨a, b, c, d⟩ := len_log h
  have hn := h
  unfold LogN at hn
  have key : (6442450944 ≤ (shfI (n, n) (33 - lenW n)).1 ↔ 3 * 2 ^ Lib.bitLen n.toNat ≤ 4 * n) := by
    unfold lenW
    by_cases s : (33 : Int) - (Lib.bitLen n.toNat : Int) < 0
    · rw [shf_neg s]
      have t : (-((33 : Int) - (Lib.bitLen n.toNat : Int))).toNat = Lib.bitLen n.toNat - 33 := by omega
      rw [t]
      have m : (2 : Int) ^ Lib.bitLen n.toNat = 2 ^ (Lib.bitLen n.toNat - 33) * 8589934592 := by
        rw [show (8589934592 : Int) = 2 ^ 33 by rfl, ← pw_add]; congr 1; omega
      have p := pw_one (Lib.bitLen n.toNat - 33)
      generalize (2 : Int) ^ (Lib.bitLen n.toNat - 33) = q at *
      rw [m] at b ⊢
      have u : n / q < 8589934592 := by rw [Int.ediv_lt_iff_lt_mul (by omega)]; rw [Int.mul_comm]; exact b
      have v : 0 ≤ n / q := Int.ediv_nonneg (by omega) (by omega)
      have x : -n / q ≤ 0 := Int.ediv_nonpos_of_nonpos_of_neg (by omega) (by omega)
      have y : -8589934592 ≤ -n / q := by rw [Int.le_ediv_iff_mul_le (by omega)]; rw [Int.mul_comm] at b; rw [Int.neg_mul]; omega
      have z : n / q ≤ -(-n / q) := by
        have e1 := Int.mul_ediv_self_le (x := n) (k := q) (by omega)
        have e2 := Int.mul_ediv_self_le (x := -n) (k := q) (by omega)
        have e3 : q * (n / q + -n / q) ≤ q * 0 := by rw [Int.mul_add]; omega
        have := Int.le_of_mul_le_mul_left e3 (by omega)
        omega
      rw [can_yes (by unfold Bnd; simp only; omega)]
      simp only
      rw [Int.le_ediv_iff_mul_le (by omega)]
      omega
    · rw [shf_pos (by omega)]
      have t : ((33 : Int) - (Lib.bitLen n.toNat : Int)).toNat = 33 - Lib.bitLen n.toNat := by omega
      rw [t]
      have m : (2 : Int) ^ Lib.bitLen n.toNat * 2 ^ (33 - Lib.bitLen n.toNat) = 8589934592 := by
        rw [← pw_add, show Lib.bitLen n.toNat + (33 - Lib.bitLen n.toNat) = 33 by omega]; rfl
      have p := pw_one (33 - Lib.bitLen n.toNat)
      have r := pw_one (Lib.bitLen n.toNat)
      generalize hq : (2 : Int) ^ (33 - Lib.bitLen n.toNat) = q at *
      generalize (2 : Int) ^ (Lib.bitLen n.toNat) = l at *
      have u : n * q < 8589934592 := by rw [← m]; exact Int.mul_lt_mul_of_pos_right b (by omega)
      have v : 0 ≤ n * q := Int.mul_nonneg (by omega) (by omega)
      have wn : IntKind.i64.wrap (n * q) = n * q := by rw [IntKind.wrap_i64]; omega
      rw [wn, can_yes (by unfold Bnd; simp only; omega)]
      simp only
      constructor
      · intro k
        have g : 3 * (l * q) ≤ 4 * (n * q) := by rw [m]; omega
        have g' : (3 * l) * q ≤ (4 * n) * q := by rw [Int.mul_assoc, Int.mul_assoc]; exact g
        exact Int.le_of_mul_le_mul_right g' (by omega)
      · intro k
        have g := Int.mul_le_mul_of_nonneg_right k (show (0 : Int) ≤ q by omega)
        rw [Int.mul_assoc, Int.mul_assoc, m] at g; omega
  have f : 0 < 2 ^ Lib.bitLen n.toNat := Nat.pow_pos (by omega)
  constructor
  · rw [key]
    unfold logE logS lenW
    constructor
    · intro k; rw [if_pos k]
    · intro k
      by_cases g : 3 * 2 ^ (Lib.bitLen n.toNat) ≤ 4 * n
      · exact g
      · rw [if_neg g] at k; omega
  · rw [key]
    intro k
    unfold logE logS lenW
    rw [if_neg k]; omega
theorem logE_in {n : Int} (h : LogN n) : -32 ≤ logE n ∧ logE n ≤ 29 := by have := logS_in h; unfold logE; omega
theorem lenW_log {n : Int} (h : LogN n) : 1 ≤ lenW n ∧ lenW n ≤ 61 := by have := len_log h; unfold lenW; omega

/-- Functions on intervals. -/
def monI (f : Int → Iv) (x : Iv) : Iv := if Bnd x then kn (bnd (f x.1) && bnd (f x.2)) ((f x.1).1, (f x.2).2) else whl
theorem mon_res (f : Int → Iv) (x : Iv) : Res (monI f x) := by unfold monI; split; exact res_kn _ _; exact res_whl
theorem mon_yes {f : Int → Iv} {x : Iv} (h : Bnd x) : monI f x = kn (bnd (f x.1) && bnd (f x.2)) ((f x.1).1, (f x.2).2) := if_pos h
theorem mon_no {f : Int → Iv} {x : Iv} (h : ¬ Bnd x) : monI f x = whl := if_neg h
def oddF (f : Int → Iv) (n : Int) : Iv := if n < 0 then negI (f (-n)) else f n
def sinhF (n : Int) : Iv := halfI (subI (expF n) (expF (-n)))
def coshF (n : Int) : Iv := halfI (addI (expF n) (expF (-n)))
def tanhP (n : Int) : Iv := if 51539607552 < n then (4294967295, 4294967296) else divI (subI (intI 1) (expF (-2 * n))) (addI (intI 1) (expF (-2 * n)))
def logI (x : Iv) : Iv := monI logF x
def asihP (n : Int) : Iv := if 35184372088832 < n then addI (addI (ln2 1) (logF n)) (0, 16) else logI (addI (n, n) (sqrtI (addI (sqrI (n, n)) (intI 1))))
def atnhP (n : Int) : Iv := if 4294967296 ≤ n then whl else halfI (logI (rdD (4294967296 + n) (4294967296 - n)))
theorem half_res (x : Iv) : Res (halfI x) := res_kn _ _
theorem tanhP_res (n : Int) : Res (tanhP n) := by
  unfold tanhP; split
  · exact can_yes (by unfold Bnd; simp)
  · exact div_res _ _
theorem asihP_res (n : Int) : Res (asihP n) := by unfold asihP; split; exact add_res _ _; exact mon_res _ _
theorem atnhP_res (n : Int) : Res (atnhP n) := by unfold atnhP; split; exact res_whl; exact half_res _
/-- Powers. -/
def powP (x : Iv) : Nat → Iv
  | 0 => x
  | j + 1 => mulI (powP x j) x
def powA (x : Iv) (n : Int) : Iv := if n % 2 = 0 ∧ x.1 < 0 then absI x else x
def powI (x : Iv) (n : Int) : Iv := if Bnd x ∧ 0 ≤ n ∧ n ≤ 16 then (if n = 0 then intI 1 else powP (powA x n) (n - 1).toNat) else whl
theorem powP_ok {x : Iv} (h : Ok x) (j : Nat) : Ok (powP x j) := by cases j; exact h; exact res_ok (mul_res _ _)
end Go.Proofs.YtmikjgbojknlnaaGreatDoor
