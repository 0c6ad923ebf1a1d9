/- Plain arithmetic of multiples of pi, of radians and of units. Conditions: as each lemma says. -/
import Derived.Test.YtmikjgbojknlnaaNumZ
import Derived.Test.YtmikjgbojknlnaaWideZe
import Derived.Test.YtmikjgbojknlnaaWideZm
namespace Go.Proofs.Ytmikjgbojknlnaa
open Go.RowKit
set_option linter.unusedVariables false
set_option maxRecDepth 100000
set_option linter.unusedSimpArgs false
set_option maxHeartbeats 1000000

/-- Every result is bounded or whole. -/
theorem add_res (x y : Iv) : Res (addI x y) := res_kn _ _
theorem sub_res (x y : Iv) : Res (subI x y) := res_kn _ _
theorem neg_res (x : Iv) : Res (negI x) := res_kn _ _
theorem hul_res (x y : Iv) : Res (hulI x y) := res_kn _ _
theorem mul_res (x y : Iv) : Res (mulI x y) := by unfold mulI; split; exact res_kn _ _; exact res_whl
theorem div_res (x y : Iv) : Res (divI x y) := by unfold divI; split; exact res_kn _ _; exact res_whl
theorem sqr_res (x : Iv) : Res (sqrI x) := res_kn _ _
theorem quo_res (a b : Int) : Res (quoI a b) := by
  unfold quoI; split
  · split; exact res_whl; exact res_kn _ _
  · exact res_kn _ _
theorem int_res (a : Int) : Res (intI a) := quo_res a 1
theorem int_ok (a : Int) : Ok (intI a) := res_ok (int_res a)
/-- Some quarter turns; a positive number of them. -/
def turP (k : Int) : Iv := (k * 7244019458077122842 / 1073741824, k * 7244019458077122842 / 1073741824 + 1)
def turM (k : Int) : Iv := if k = 0 then (0, 0) else if k < 0 then (-(turP (-k)).2, -(turP (-k)).1) else turP k
def turI (k : Int) : Iv := if k < -4096 ∨ 4096 < k then whl else turM k
theorem shr_30 (v : Int) : shrW v 30 = v / 1073741824 := by
  unfold shrW; rw [if_pos (by omega)]; rfl
theorem mf_turn {k : Int} (h0 : 0 ≤ k) (h1 : k ≤ 4096) : mfI k 7244019458077122842 30 = k * 7244019458077122842 / 1073741824 := by
  unfold mfI; rw [if_pos (by omega), shr_30]; unfold intW; rw [if_pos]; unfold In64; omega
theorem turP_in {k : Int} (h0 : 0 ≤ k) (h1 : k ≤ 4096) : 0 ≤ (turP k).1 ∧ (turP k).2 = (turP k).1 + 1 ∧ (turP k).2 ≤ 30000000000000 := by
  unfold turP; refine ⟨?_, rfl, ?_⟩ <;> simp only <;> omega
theorem turP_bnd {k : Int} (h0 : 0 ≤ k) (h1 : k ≤ 4096) : Bnd (turP k) := by
  have := turP_in h0 h1; unfold Bnd; omega
theorem turM_neg {k : Int} (h0 : k < 0) (h1 : -4096 ≤ k) : turM k = negI (turP (-k)) := by
  unfold turM; rw [if_neg (by omega), if_pos h0, negI_yes (turP_bnd (by omega) (by omega))]
theorem turM_zero : turM 0 = (0, 0) := rfl
theorem turM_pos {k : Int} (h : 0 < k) : turM k = turP k := by
  unfold turM; rw [if_neg (by omega), if_neg (by omega)]
theorem turI_out {k : Int} (h : k < -4096 ∨ 4096 < k) : turI k = whl := if_pos h
theorem turI_in {k : Int} (h0 : -4096 ≤ k) (h1 : k ≤ 4096) : turI k = turM k := if_neg (by omega)
theorem turM_bnd {k : Int} (h0 : -4096 ≤ k) (h1 : k ≤ 4096) : Bnd (turM k) := by
  have a := turP_in (k := k)
  have b := turP_in (k := -k)
  unfold turM; split
  · unfold Bnd; simp
  · split
    · have := b (by omega) (by omega); unfold Bnd; simp only; omega
    · have := a (by omega) (by omega); unfold Bnd; omega
theorem turI_res (k : Int) : Res (turI k) := by
  unfold turI; split
  · exact res_whl
  · exact can_yes (turM_bnd (by omega) (by omega))
theorem turI_ok (k : Int) : Ok (turI k) := res_ok (turI_res k)
theorem int_zero : intI 0 = (0, 0) := intI_yes (by omega) (by omega)

/-- Radians of units; of a positive number of them. -/
def radP (u : Int) : Iv := (u * 7244019458077122842 / 966367641600000000, u * 7244019458077122843 / 966367641600000000 + 1)
def radI (u : Int) : Iv := if u < -36000000000 ∨ 36000000000 < u then whl else if u = 0 then (0, 0) else if u < 0 then negI (radP (-u)) else radP u
theorem md_rad {u : Int} (h0 : 0 ≤ u) (h1 : u ≤ 36000000000) :
    mdI u 7244019458077122842 966367641600000000 = u * 7244019458077122842 / 966367641600000000 ∧ mdI u 7244019458077122843 966367641600000000 = u * 7244019458077122843 / 966367641600000000 := by
  unfold mdI; rw [if_pos (by omega), if_pos (by omega)]; unfold intW; rw [if_pos, if_pos]
  · exact ⟨rfl, rfl⟩
  · unfold In64; omega
  · unfold In64; omega
theorem radP_in {u : Int} (h0 : 0 ≤ u) (h1 : u ≤ 36000000000) : 0 ≤ (radP u).1 ∧ (radP u).1 < (radP u).2 ∧ (radP u).2 ≤ 269860754092 := by
  unfold radP; simp only; omega
theorem radP_bnd {u : Int} (h0 : 0 ≤ u) (h1 : u ≤ 36000000000) : Bnd (radP u) := by
  have := radP_in h0 h1; unfold Bnd; omega
theorem radI_out {u : Int} (h : u < -36000000000 ∨ 36000000000 < u) : radI u = whl := if_pos h
theorem radI_zero : radI 0 = (0, 0) := rfl
theorem radI_neg {u : Int} (h0 : u < 0) (h1 : -36000000000 ≤ u) : radI u = negI (radP (-u)) := by
  unfold radI; rw [if_neg (by omega), if_neg (by omega), if_pos h0]
theorem radI_pos {u : Int} (h0 : 0 < u) (h1 : u ≤ 36000000000) : radI u = radP u := by
  unfold radI; rw [if_neg (by omega), if_neg (by omega), if_neg (by omega)]
theorem radI_res (u : Int) : Res (radI u) := by
  unfold radI; split
  · exact res_whl
  · split
    · exact can_yes (by unfold Bnd; simp)
    · split
      · exact res_kn _ _
      · exact can_yes (radP_bnd (by omega) (by omega))
/-- Degrees. -/
def degI (x : Iv) : Iv := divI (mulI x (intI 180)) (turI 2)

/-- Units that are not above a fix in radians. -/
def unB (n : Int) : Int := n * 966367641600000000 / (if 0 < n then 7244019458077122843 else 7244019458077122842)
theorem md_unB {n d : Int} (h0 : -1152921504606846976 ≤ n) (h1 : n ≤ 1152921504606846976) (hd : d = 7244019458077122843 ∨ d = 7244019458077122842) : mdI n 966367641600000000 d = n * 966367641600000000 / d := by
  rcases hd with rfl | rfl
  · unfold mdI; rw [if_pos (by omega)]; unfold intW; rw [if_pos]; unfold In64; omega
  · unfold mdI; rw [if_pos (by omega)]; unfold intW; rw [if_pos]; unfold In64; omega
theorem unB_pos {n : Int} (h : 0 < n) (h1 : n ≤ 1152921504606846976) : mdI n 966367641600000000 7244019458077122843 = unB n := by
  rw [md_unB (by omega) h1 (.inl rfl)]; unfold unB; rw [if_pos h]
theorem unB_neg {n : Int} (h : ¬ 0 < n) (h0 : -1152921504606846976 ≤ n) : mdI n 966367641600000000 7244019458077122842 = unB n := by
  rw [md_unB h0 (by omega) (.inr rfl)]; unfold unB; rw [if_neg h]
theorem unB_in {n : Int} (h0 : -1152921504606846976 ≤ n) (h1 : n ≤ 1152921504606846976) : -1152921504606846976 ≤ unB n ∧ unB n ≤ 1152921504606846976 := by
  unfold unB; split <;> omega
/-- The least and the greatest angle in units that may be meant. -/
def UnOk (x : Iv) : Prop := Bnd x ∧ -36000000000 ≤ unB x.1 ∧ -unB (-x.2) ≤ 36000000000
instance (x : Iv) : Decidable (UnOk x) := by unfold UnOk; infer_instance
def unL (x : Iv) : Int := if UnOk x then unB x.1 else 0
def unH (x : Iv) : Int := if UnOk x then -unB (-x.2) else 0
def unK (x : Iv) : Bool := decide (UnOk x)
theorem un_no {x : Iv} (h : ¬ UnOk x) : unL x = 0 ∧ unH x = 0 ∧ unK x = false := ⟨if_neg h, if_neg h, decide_eq_false h⟩
theorem un_yes {x : Iv} (h : UnOk x) : unL x = unB x.1 ∧ unH x = -unB (-x.2) ∧ unK x = true := ⟨if_pos h, if_pos h, decide_eq_true h⟩

/-- The quarter turn that is nearest to an angle. -/
def Ang (n : Int) : Prop := -1099511627776 ≤ n ∧ n ≤ 1099511627776
instance (n : Int) : Decidable (Ang n) := by unfold Ang; infer_instance
def ang (n : Int) : Bool := decide (Ang n)
def qrt (n : Int) : Int := if Ang n then (n + 3373259426) / 6746518852 else 0
theorem md_qrt {n : Int} (h : Ang n) : mdI (n + 3373259426) 1 6746518852 = qrt n := by
  unfold qrt; rw [if_pos h]; unfold Ang at h
  unfold mdI; rw [if_pos (by omega)]; unfold intW; rw [if_pos (by unfold In64; omega), Int.mul_one]
theorem qrt_in (n : Int) : -163 ≤ qrt n ∧ qrt n ≤ 163 := by
  unfold qrt; split
  · rename_i h; unfold Ang at h; omega
  · omega
/-- A quotient rounded down, out of one rounded to zero. -/
theorem floor_tdiv {a b : Int} (hb : 0 < b) : a / b = if a.tmod b < 0 then a.tdiv b - 1 else a.tdiv b := by
  have h1 := Int.mul_tdiv_add_tmod a b
  have h2 := Int.mul_ediv_add_emod a b
  have h3 := Int.emod_nonneg a (Int.ne_of_gt hb)
  have h4 := Int.emod_lt_of_pos a hb
  have h5 : -b < a.tmod b := Int.lt_tmod_of_pos a hb
  have h6 : a.tmod b < b := Int.tmod_lt_of_pos a hb
  split
  · rename_i s
    have e := Int.ediv_emod_unique hb (a := a) (r := a.tmod b + b) (q := a.tdiv b - 1)
    exact (e.2 ⟨by rw [Int.mul_sub]; omega, by omega, by omega⟩).1
  · rename_i s
    have e := Int.ediv_emod_unique hb (a := a) (r := a.tmod b) (q := a.tdiv b)
    exact (e.2 ⟨by omega, by omega, h6⟩).1
end Go.Proofs.Ytmikjgbojknlnaa
