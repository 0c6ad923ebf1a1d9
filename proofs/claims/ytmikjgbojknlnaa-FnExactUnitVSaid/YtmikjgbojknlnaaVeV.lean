/- Numbers of lengths; contracts of the model's ends and sums of squares. Conditions: as each lemma says. -/
import Derived.Test.YtmikjgbojknlnaaVeU
import Derived.Test.YtmikjgbojknlnaaIvS
import Derived.Test.YtmikjgbojknlnaaWideZa
import Derived.Test.YtmikjgbojknlnaaWideZp
import Derived.Test.YtmikjgbojknlnaaLat
import Derived.Deep.RegionHeld3
import Derived.Deep.DeepCutAuto
import Derived.Outline
namespace Go.Proofs.Ytmikjgbojknlnaa
open Go.ChangeShapes Go.WideShapes Go.ChangeAt Go.RowKit
set_option linter.unusedVariables false
set_option maxRecDepth 100000
set_option linter.unusedSimpArgs false
set_option maxHeartbeats 1000000
theorem sq_mono {a b : Int} (ha : 0 ≤ a) (h : a ≤ b) : a * a ≤ b * b := Int.mul_le_mul h h ha (by omega)
theorem sqW_spec {v : Int} (h0 : 0 ≤ v) (h : v < 21267647932558653966460912964485513216) : 0 ≤ sqW v ∧ sqW v * sqW v ≤ v ∧ v < (sqW v + 1) * (sqW v + 1) := by
  have s := rootW_spec (m := v.toNat) (by omega)
  have e : sqW v = (rootW v.toNat : Int) := if_neg (by omega)
  rw [e]
  generalize rootW v.toNat = r at *
  have h1 : ((r * r : Nat) : Int) ≤ v := by have := s.1; omega
  have h2 : v < (((r + 1) * (r + 1) : Nat) : Int) := by have := s.2; omega
  rw [Int.natCast_mul] at h1 h2
  exact ⟨by omega, h1, by simpa using h2⟩
theorem lt_of_sq {a b : Int} (hb : 0 ≤ b) (h : a * a < b * b) : a < b := by
  by_cases c : a < b
  · exact c
  · have := sq_mono hb (show b ≤ a by omega); omega
theorem sqU_ge {v : Int} (h0 : 0 ≤ v) (h : v < 21267647932558653966460912964485513216) : sqW v ≤ sqU v ∧ v ≤ sqU v * sqU v ∧ sqU v ≤ sqW v + 1 := by
  obtain ⟨a, b, c⟩ := sqW_spec h0 h
  unfold sqU
  split
  · rename_i e; rw [e]; omega
  · exact ⟨by omega, by omega, by omega⟩
theorem sqW_mono {u v : Int} (h0 : 0 ≤ u) (h : u ≤ v) (hv : v < 21267647932558653966460912964485513216) : sqW u ≤ sqW v := by
  obtain ⟨a, b, c⟩ := sqW_spec h0 (by omega)
  obtain ⟨a', b', c'⟩ := sqW_spec (show 0 ≤ v by omega) hv
  have := lt_of_sq (a := sqW u) (b := sqW v + 1) (by omega) (by omega)
  omega
/-- The length of vectors whose parts' least and greatest absolute values are these. -/
def nrmE (p q r : Iv) : Iv := kn (resB true (sqW (s3 p.1 q.1 r.1)) && resB true (sqU (s3 p.2 q.2 r.2))) (resI true (sqW (s3 p.1 q.1 r.1)), resI true (sqU (s3 p.2 q.2 r.2)))
theorem nrm_eq (x y z : Iv) : nrmI x y z = nrmE (absI x) (absI y) (absI z) := rfl
theorem nrm_over {p q r : Iv} (h : 1152921504606846976 ≤ sqU (s3 p.2 q.2 r.2)) : nrmE p q r = whl := by
  unfold nrmE
  by_cases k : InF (sqU (s3 p.2 q.2 r.2))
  · rw [(res_yes (c := true) rfl k).1, (res_yes (c := true) rfl k).2]
    cases resB true (sqW (s3 p.1 q.1 r.1))
    · exact kn_no rfl
    · have : ¬ Bnd (resI true (sqW (s3 p.1 q.1 r.1)), sqU (s3 p.2 q.2 r.2)) := by unfold Bnd; simp only; omega
      exact (kn_yes rfl).trans (can_no this)
  · rw [(res_over (c := true) k).2, Bool.and_false]; exact kn_no rfl
theorem s3_nonneg (a b c : Int) : 0 ≤ s3 a b c := by
  unfold s3
  have h : ∀ n : Int, 0 ≤ n * n := fun n => by rw [show n * n = ((n.natAbs * n.natAbs : Nat) : Int) from Int.natAbs_mul_self.symm]; omega
  have := h a; have := h b; have := h c; omega
theorem s3_ge {a b c m : Int} (hm : 0 ≤ m) (h : m ≤ a ∨ m ≤ b ∨ m ≤ c) : m * m ≤ s3 a b c := by
  have k : ∀ n : Int, 0 ≤ n * n := fun n => by rw [show n * n = ((n.natAbs * n.natAbs : Nat) : Int) from Int.natAbs_mul_self.symm]; omega
  have ka := k a; have kb := k b; have kc := k c
  unfold s3
  rcases h with h | h | h
  · have := sq_mono hm h; omega
  · have := sq_mono hm h; omega
  · have := sq_mono hm h; omega
theorem nrm_whole {x y z : Iv} (h : ¬ Bnd x ∨ ¬ Bnd y ∨ ¬ Bnd z) : nrmI x y z = whl := by
  rw [nrm_eq]
  apply nrm_over
  obtain ⟨_, p2⟩ := absF_in x
  obtain ⟨_, q2⟩ := absF_in y
  obtain ⟨_, r2⟩ := absF_in z
  have b := (s3_in p2 q2 r2).2.1
  have n := s3_nonneg (absI x).2 (absI y).2 (absI z).2
  have g : (1152921504606846976 : Int) * 1152921504606846976 ≤ s3 (absI x).2 (absI y).2 (absI z).2 := by
    apply s3_ge (by omega)
    rcases h with h | h | h
    · left; rw [absI_no h]; unfold whl; simp
    · right; left; rw [absI_no h]; unfold whl; simp
    · right; right; rw [absI_no h]; unfold whl; simp
  obtain ⟨a, e, f⟩ := sqU_ge n b
  obtain ⟨w0, _, _⟩ := sqW_spec n b
  by_cases c : 1152921504606846976 ≤ sqU (s3 (absI x).2 (absI y).2 (absI z).2)
  · exact c
  · have := sq_mono (a := sqU (s3 (absI x).2 (absI y).2 (absI z).2)) (b := 1152921504606846975) (by omega) (by omega)
    omega
theorem nrm_in {x y z : Iv} (hx : Bnd x) (hy : Bnd y) (hz : Bnd z) (h : ¬ 1152921504606846976 ≤ sqU (s3 (absI x).2 (absI y).2 (absI z).2)) :
    nrmI x y z = (sqW (s3 (absI x).1 (absI y).1 (absI z).1), sqU (s3 (absI x).2 (absI y).2 (absI z).2)) := by
  have ex := absI_yes hx; have ey := absI_yes hy; have ez := absI_yes hz
  obtain ⟨bx, nx⟩ := abs_ends hx; obtain ⟨by', ny⟩ := abs_ends hy; obtain ⟨bz, nz⟩ := abs_ends hz
  rw [nrm_eq]
  obtain ⟨p1, p2⟩ := absF_in x
  obtain ⟨q1, q2⟩ := absF_in y
  obtain ⟨r1, r2⟩ := absF_in z
  have b1 := (s3_in p1 q1 r1).2.1
  have b2 := (s3_in p2 q2 r2).2.1
  have le : s3 (absI x).1 (absI y).1 (absI z).1 ≤ s3 (absI x).2 (absI y).2 (absI z).2 := by
    unfold s3
    rw [ex, ey, ez]
    unfold Bnd at bx by' bz
    simp only at *
    have := sq_mono nx bx.2.1; have := sq_mono ny by'.2.1; have := sq_mono nz bz.2.1
    omega
  have n1 := s3_nonneg (absI x).1 (absI y).1 (absI z).1
  have m := sqW_mono n1 le b2
  have u := sqU_ge (by omega) b2
  have w1 := (sqW_spec n1 b1).1
  unfold nrmE
  rw [(res_yes (c := true) rfl (show InF (sqW (s3 (absI x).1 (absI y).1 (absI z).1)) by unfold InF; omega)).1, (res_yes (c := true) rfl (show InF (sqW (s3 (absI x).1 (absI y).1 (absI z).1)) by unfold InF; omega)).2,
    (res_yes (c := true) rfl (show InF (sqU (s3 (absI x).2 (absI y).2 (absI z).2)) by unfold InF; omega)).1, (res_yes (c := true) rfl (show InF (sqU (s3 (absI x).2 (absI y).2 (absI z).2)) by unfold InF; omega)).2]
  exact kn_bnd (by unfold Bnd; simp only; omega)
theorem l10Ends_any (x : Iv) (w : World) : Calls Try.prog 126 #[.agg #[.int .i64 x.1, .int .i64 x.2]] w fun e w' =>
    e = .returned (.tuple #[.int .i64 (absI x).1, .int .i64 (absI x).2]) ∧ Below w.heap.size w w' := by
  have A := Lib.hid (fun w => sAbsI_any x w)
  generalize absI x = p at *
  go_enter Try.func126, Try.ntmps126
  go_wp2_with fail
  refine (A.out _).mono ?_
  rintro e w1 ⟨rfl, hb1⟩
  have hs1 : _ ≤ w1.heap.size := hb1.size
  try simp at hs1
  go_wp2_with fail
  obtain ⟨hlt2, hlt3, hlt4, hlt5, hlt6, hlt7, hlt8, hlt9, hlt10, hlt11⟩ := below_add; go_region_held3 (fun w' => w'.cell? ⟨w1.heap.size, 0, none⟩ = some (.int .i64 p.1) ∧ w'.cell? ⟨w1.heap.size, 1, none⟩ = some (.int .i64 p.2)) (first | (with_reducible exact ((And.imp (cell_kept (by assumption)) (cell_kept (by assumption))) (by assumption))) | (with_reducible exact ((And.imp (cell_alloc) (cell_alloc)) (by assumption))) | (with_reducible exact ((And.imp (fun h => cell_far (by first | (simp; done) | (simp; omega) | (dsimp only; omega)) (cell_far (by first | (simp; done) | (simp; omega) | (dsimp only; omega)) h)) (fun h => cell_far (by first | (simp; done) | (simp; omega) | (dsimp only; omega)) (cell_far (by first | (simp; done) | (simp; omega) | (dsimp only; omega)) h))) (by assumption))) | (refine ⟨?_, ?_⟩ <;> repeat (first | (with_reducible assumption) | (with_reducible refine cell_far (by first | (simp; done) | (simp; omega) | (dsimp only; omega)) ?_) | (with_reducible refine cell_drew ?_) | (with_reducible refine cell_drewN ?_) | (with_reducible refine cell_kept (by assumption) ?_) | (simp [go_sem]; done) | (with_reducible refine cell_alloc ?_))) | (simp [go_sem, *]; done)) (fail)
  all_goals (go_wp2; go_ret2; exact ⟨rfl, belS⟩)
set_option maxHeartbeats 16000000 in
theorem l10Sum_any (a b c : Int) (ha : InF a) (hb : InF b) (hc : InF c) (w : World) : Calls Try.prog 128 #[.int .i64 a, .int .i64 b, .int .i64 c] w fun e w' =>
    e = .returned (.agg #[.int .i64 (hiW (s3 a b c)), .int .u64 (loW (s3 a b c))]) ∧ Below w.heap.size w w' := by
  obtain ⟨s0, t0⟩ := sq_in ha
  obtain ⟨s1, t1⟩ := sq_in hb
  obtain ⟨s2, t2⟩ := sq_in hc
  have M0 := Lib.hid (fun w => l02Mul_any a a (inF_64 ha) (inF_64 ha) w)
  have M1 := Lib.hid (fun w => l02Mul_any b b (inF_64 hb) (inF_64 hb) w)
  have M2 := Lib.hid (fun w => l02Mul_any c c (inF_64 hc) (inF_64 hc) w)
  have A0 := Lib.hid (fun w => l02Plus_any (a * a) (b * b) (by unfold InW; omega) (by unfold InW; omega) w)
  rw [addW_self (u := a * a) (v := b * b) (by unfold InW; omega)] at A0
  have A1 := Lib.hid (fun w => l02Plus_any (a * a + b * b) (c * c) (by unfold InW; omega) (by unfold InW; omega) w)
  rw [addW_self (u := a * a + b * b) (v := c * c) (by unfold InW; omega)] at A1
  have e3 : a * a + b * b + c * c = s3 a b c := rfl
  rw [e3] at A1
  clear e3 ha hb hc s0 s1 s2 t0 t1 t2
  generalize s3 a b c = v3 at *
  generalize a * a + b * b = v2 at *
  generalize a * a = v1 at *
  generalize b * b = q1 at *
  generalize c * c = q2 at *
  go_enter Try.func128, Try.ntmps128
  go_wp2_with fail
  refine (M0.out _).mono ?_
  rintro e w1 ⟨rfl, hb1⟩
  have hs1 : _ ≤ w1.heap.size := hb1.size
  try simp at hs1
  have o_j10 : Own (w1) (w.heap.size) 0 (.int .i64 0) := ownS; have j10 := o_j10.1; have f_j10 := o_j10.2; have o_j11 : Own (w1) (w.heap.size) 1 (.int .u64 0) := ownS; have j11 := o_j11.1; have f_j11 := o_j11.2
  go_wp2_with fail
  refine (M1.out _).mono ?_
  rintro e w2 ⟨rfl, hb2⟩
  have hs2 : _ ≤ w2.heap.size := hb2.size
  try simp at hs2
  have o_j20 : Own (w2) (w.heap.size) 0 (.int .i64 0) := ownS; have j20 := o_j20.1; have f_j20 := o_j20.2; have o_j21 : Own (w2) (w.heap.size) 1 (.int .u64 0) := ownS; have j21 := o_j21.1; have f_j21 := o_j21.2
  go_wp2_with fail
  refine (A0.out _).mono ?_
  rintro e w3 ⟨rfl, hb3⟩
  have hs3 : _ ≤ w3.heap.size := hb3.size
  try simp at hs3
  have o_j30 : Own (w3) (w.heap.size) 0 (.int .i64 0) := ownS; have j30 := o_j30.1; have f_j30 := o_j30.2; have o_j31 : Own (w3) (w.heap.size) 1 (.int .u64 0) := ownS; have j31 := o_j31.1; have f_j31 := o_j31.2
  go_wp2_with fail
  refine (M2.out _).mono ?_
  rintro e w4 ⟨rfl, hb4⟩
  have hs4 : _ ≤ w4.heap.size := hb4.size
  try simp at hs4
  have o_j40 : Own (w4) (w.heap.size) 0 (.int .i64 0) := ownS; have j40 := o_j40.1; have f_j40 := o_j40.2; have o_j41 : Own (w4) (w.heap.size) 1 (.int .u64 0) := ownS; have j41 := o_j41.1; have f_j41 := o_j41.2
  go_wp2_with fail
  refine (A1.out _).mono ?_
  rintro e w5 ⟨rfl, hb5⟩
  have hs5 : _ ≤ w5.heap.size := hb5.size
  try simp at hs5
  have o_j50 : Own (w5) (w.heap.size) 0 (.int .i64 0) := ownS; have j50 := o_j50.1; have f_j50 := o_j50.2; have o_j51 : Own (w5) (w.heap.size) 1 (.int .u64 0) := ownS; have j51 := o_j51.1; have f_j51 := o_j51.2
  go_wp2
  exact bodyPost_ret (v := .agg #[.int .i64 (hiW v3), .int .u64 (loW v3)]) (by simp [results, Try.results128, go_sem, j50, j51]) rfl ⟨rfl, belS⟩
end Go.Proofs.Ytmikjgbojknlnaa
