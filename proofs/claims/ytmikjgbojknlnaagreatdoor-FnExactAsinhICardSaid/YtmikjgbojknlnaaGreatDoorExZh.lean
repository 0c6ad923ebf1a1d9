/- Numbers of the model's searches for the number of binary digits of a logarithm. Conditions: as each lemma says. A contract of logarithms of numbers in the model. Conditions: numbers are int64. -/
import Derived.Test.YtmikjgbojknlnaaGreatDoorExN
import Derived.Test.YtmikjgbojknlnaaGreatDoorExA
import Derived.Test.YtmikjgbojknlnaaGreatDoorExB
import Derived.Test.YtmikjgbojknlnaaGreatDoorIvM
import Derived.Test.YtmikjgbojknlnaaGreatDoorIvN
import Derived.Test.YtmikjgbojknlnaaGreatDoorIvW
import Derived.Test.YtmikjgbojknlnaaGreatDoorIvX
import Derived.Test.YtmikjgbojknlnaaGreatDoorIvS
import Derived.Test.YtmikjgbojknlnaaGreatDoorIvR
import Derived.Test.YtmikjgbojknlnaaGreatDoorIvT
import Derived.Test.YtmikjgbojknlnaaGreatDoorIvV
import Derived.Test.YtmikjgbojknlnaaGreatDoorIvLd
import Derived.LoopN
import Derived.Handy
import Derived.Deep.DeepCutAuto
import Derived.Deep.RegionHeld3
import Derived.Outline
namespace Go.Proofs.YtmikjgbojknlnaaGreatDoor
open Go.ChangeShapes Go.WideShapes Go.ChangeAt Go.RowKit
set_option linter.unusedVariables false
set_option maxRecDepth 100000
set_option linter.unusedSimpArgs false
set_option maxHeartbeats 1000000

def logU (n E : Int) : Iv := (n / 2 ^ E.toNat, -(-n / 2 ^ E.toNat))
def logD (n k : Int) : Iv := (n * 2 ^ k.toNat, n * 2 ^ k.toNat)
theorem logU_zero (n : Int) : logU n 0 = (n, n) := by unfold logU; simp
theorem logD_zero (n : Int) : logD n 0 = (n, n) := by unfold logD; simp
theorem neg_div_ge {n q : Int} (h : 0 < q) : n / q ≤ -(-n / q) ∧ -(-n / q) ≤ n / q + 1 := by
  have e1 := Int.mul_ediv_self_le (x := n) (k := q) (by omega)
  have e2 := Int.mul_ediv_self_le (x := -n) (k := q) (by omega)
  have e3 := Int.lt_mul_ediv_self_add (x := n) h
  have e4 := Int.lt_mul_ediv_self_add (x := -n) h
  have a : q * (n / q + -n / q) ≤ q * 0 := by rw [Int.mul_add]; omega
  have b : q * (-2) < q * (n / q + -n / q) := by rw [Int.mul_add]; omega
  have c := Int.le_of_mul_le_mul_left a h
  have d := Int.lt_of_mul_lt_mul_left b (by omega)
  omega
theorem logM_up {n E : Int} (h : LogN n) (p : 0 < E) (e : E = logE n) : logM n = logU n E := by
  have t : ((E.toNat : Nat) : Int) = E := by omega
  have a := log_enough h E.toNat (by omega)
  have b : ¬ 6442450944 ≤ n / 2 ^ E.toNat := fun k => by have := (log_great h E.toNat).1 k; omega
  have c := neg_div_ge (n := n) (q := 2 ^ E.toNat) (by have := pw_one E.toNat; omega)
  unfold logM
  rw [← e, shf_neg (by omega), Int.neg_neg]
  exact can_yes (by unfold Bnd; simp only; omega)
theorem logD_in {n k : Int} (h : LogN n) (p : 0 ≤ k) (q : k ≤ 32) (e : logE n ≤ -k) : 0 < n * 2 ^ k.toNat ∧ n * 2 ^ k.toNat < 6442450944 := by
  obtain ⟨a, b, _⟩ := logS_in h
  unfold logE at e
  have n0 := h.1
  have d := pw_le (a := logS n) (b := 32 - k.toNat) (by omega)
  have m : (2 : Int) ^ (32 - k.toNat) * 2 ^ k.toNat = 4294967296 := by rw [← pw_add, Nat.sub_add_cancel (by omega)]; rfl
  have o := pw_one k.toNat
  have f : 2 * n < 3 * 2 ^ (32 - k.toNat) := by omega
  have g := Int.mul_lt_mul_of_pos_right f (show (0 : Int) < 2 ^ k.toNat by omega)
  rw [Int.mul_assoc, Int.mul_assoc, m] at g
  have z : 0 < n * 2 ^ k.toNat := Int.mul_pos n0 (by omega)
  omega
theorem logM_down {n k : Int} (h : LogN n) (p : 0 ≤ k) (q : k ≤ 32) (e : logE n = -k) : logM n = logD n k := by
  have a := logD_in h p q (by omega)
  unfold logM
  rw [e, Int.neg_neg, shf_pos p, show IntKind.i64.wrap (((n, n) : Iv).1 * 2 ^ k.toNat) = n * 2 ^ k.toNat by rw [IntKind.wrap_i64]; simp only; omega]
  exact can_yes (by unfold Bnd; simp only; omega)
/-- Behind the first search, and within the second. -/
def LogP (n E : Int) (m : Iv) : Prop := (0 < E ∧ E = logE n ∧ m = logU n E) ∨ ∃ k, 0 ≤ k ∧ k ≤ 32 ∧ E = -k ∧ logE n ≤ -k ∧ m = logD n k
theorem logP_start {n E : Int} {m : Iv} (h : LogN n) (p : 0 ≤ E) (e : E = 0 ∨ E ≤ logE n) (c : ¬ E < logE n) (hm : m = logU n E) : LogP n E m := by
  by_cases z : E = 0
  · exact .inr ⟨0, by omega, by omega, by omega, by omega, by rw [hm, z, logU_zero, logD_zero]⟩
  · exact .inl ⟨by omega, by omega, hm⟩
theorem logP_go {n E : Int} {m : Iv} (h : LogN n) (p : LogP n E m) : (m.1 < 3221225472 ∧ ∃ k, k = -E ∧ 0 ≤ k ∧ k ≤ 31 ∧ logE n ≤ -(k + 1)) ∨ (¬ m.1 < 3221225472 ∧ E = logE n ∧ m = logM n) := by
  rcases p with ⟨p, e, hm⟩ | ⟨k, k0, k1, e, l, hm⟩
  · right
    have a := log_enough h E.toNat (by omega)
    exact ⟨by rw [hm]; unfold logU; simp only; omega, e, by rw [hm, logM_up h p e]⟩
  · have a := log_small h k.toNat (by omega)
    have i := logE_in h
    have t : ((k.toNat : Nat) : Int) = k := by omega
    rw [t] at a
    by_cases c : n * 2 ^ k.toNat < 3221225472
    · left
      have b := a.1 c
      exact ⟨by rw [hm]; exact c, k, by omega, k0, by omega, by omega⟩
    · right
      have b : ¬ logE n < -k := fun x => c (a.2 x)
      exact ⟨by rw [hm]; exact c, by omega, by rw [hm, logM_down h k0 k1 (by omega)]⟩
theorem logP_next {n k : Int} (k0 : 0 ≤ k) (k1 : k ≤ 31) (e : logE n ≤ -(k + 1)) {E q : Int} (hq : q = k + 1) (hE : E = -q) : LogP n E (logD n q) :=
  .inr ⟨q, by omega, by omega, hE, by omega, rfl⟩
end Go.Proofs.YtmikjgbojknlnaaGreatDoor
namespace Go.Proofs.YtmikjgbojknlnaaGreatDoor
open Go.ChangeShapes Go.WideShapes Go.ChangeAt Go.RowKit
set_option linter.unusedVariables false
set_option maxRecDepth 100000
set_option linter.unusedSimpArgs false
set_option maxHeartbeats 1000000
theorem sLogAt_no (n : Int) (h : ¬ LogN n) (w : World) : Calls Tryz.prog 153 #[.int .i64 n] w fun e w' =>
    e = .returned (.agg #[.int .i64 (logF n).1, .int .i64 (logF n).2]) ∧ Below w.heap.size w w' := by
  have E := Lib.hid (logF_no h)
  have o : n < 1 ∨ 1152921504606846976 < n := by unfold LogN at h; omega
  clear h
  generalize logF n = Y at *
  go_enter Tryz.func153, Tryz.ntmps153
  go_wp2_with fail
  refine (l00In_no n 1 1152921504606846976 o _).mono ?_
  rintro e w0 ⟨rfl, rfl⟩
  go_wp2_with fail
  refine (l04Whole_any _).mono ?_
  rintro e w1 ⟨rfl, hb1⟩
  have hs1 : _ ≤ w1.heap.size := hb1.size
  try simp at hs1
  have o_q10 : Own (w1) (w.heap.size) 0 (.int .i64 0) := ownJ; obtain ⟨q10, f_q10⟩ := o_q10; have o_q11 : Own (w1) (w.heap.size) 1 (.int .i64 0) := ownJ; obtain ⟨q11, f_q11⟩ := o_q11
  go_wp2
  exact bodyPost_ret (v := .agg #[.int .i64 (-1152921504606846976), .int .i64 1152921504606846976]) (by simp [results, Tryz.results153, go_sem, q10, q11]) rfl ⟨(by first | (rw [E.out]; done) | (rw [E.out]; rfl) | (simp [E.out]; done)), belB⟩
set_option maxHeartbeats 16000000 in
theorem sLogAt_yes (n : Int) (h : LogN n) (w : World) : Calls Tryz.prog 153 #[.int .i64 n] w fun e w' =>
    e = .returned (.agg #[.int .i64 (logF n).1, .int .i64 (logF n).2]) ∧ Below w.heap.size w w' := by
  obtain ⟨e0, e1⟩ := logE_in h
  have b0 : 0 < n := h.1
  have b1 : n ≤ 1152921504606846976 := h.2
  have hF : InF ((n, n) : Iv).2 := by unfold InF; simp only; omega
  have O1 := Lib.hid (fun w => l08One_any w)
  have H_ := Lib.hid h
  clear h
  go_enter Tryz.func153, Tryz.ntmps153
  go_wp2_with fail
  refine (l00In_yes n 1 1152921504606846976 (by omega) b1 _).mono ?_
  rintro e w0 ⟨rfl, rfl⟩
  go_wp2_with fail
  go_loopw [3] (fun x wr => ∃ (E : Int) (m : Iv), x = .int .i64 E ∧ 0 ≤ E ∧ E ≤ 40 ∧ (E = 0 ∨ E ≤ logE n) ∧ m = logU n E ∧ Own wr (w.heap.size + 1) 0 (.int .i64 m.1) ∧ Own wr (w.heap.size + 1) 1 (.int .i64 m.2) ∧ Own wr w.heap.size 0 (.int .i64 0) ∧ Own wr w.heap.size 1 (.int .i64 0) ∧ Below w.heap.size w wr) (fun x _ => ((50 : Int) - intOf x).toNat)
  case atStart => exact ⟨0, (n, n), rfl, by omega, by omega, .inl rfl, (logU_zero n).symm, ⟨by simp [go_sem], by simp [go_sem]⟩, ⟨by simp [go_sem], by simp [go_sem]⟩, ⟨by simp [go_sem], by simp [go_sem]⟩, ⟨by simp [go_sem], by simp [go_sem]⟩, belB⟩
  case round =>
    obtain ⟨E, m, rfl, p0, p1, pe, pm, m0, m1, r0, r1, hb⟩ := hrel
    have hsz := hb.size
    obtain ⟨cm0, fm0⟩ := id m0
    obtain ⟨cm1, fm1⟩ := id m1
    have key := log_great H_.out E.toNat
    by_cases c : E < logE n
    · have C0 : decide (6442450944 ≤ m.1) = true := decide_eq_true (by rw [pm]; exact key.2 (by omega))
      obtain ⟨k, hk⟩ : ∃ k, k = E + 1 := ⟨_, rfl⟩
      have k0 : 0 ≤ k := by omega
      have k1 : k ≤ 40 := by omega
      have k2 : k = 0 ∨ k ≤ logE n := .inr (by omega)
      have WK : E + 1 = k := hk.symm
      have WP : IntKind.i64.wrap (E + 1) = k := by rw [hk]; exact wrapS (by unfold In64; omega)
      have WU : IntKind.u64.wrap k = k := by rw [IntKind.wrap_u64]; omega
      have W2 : IntKind.i64.wrap (-(-n / 2 ^ k.toNat)) = -(-n / 2 ^ k.toNat) := shr_wrap (x := (n, n)) hF k.toNat
      clear hk pe key c pm
      go_wp2
      go_roundw
      case rel => exact ⟨k, logU n k, rfl, k0, k1, k2, rfl, own_next (by decide) (own_put m0), own_put (own_next (by decide) m1), own_far (by dsimp only; omega) (own_far (by dsimp only; omega) r0), own_far (by dsimp only; omega) (own_far (by dsimp only; omega) r1), belB⟩
      case measure => first | (simp [intOf]; done) | (simp [intOf]; omega)
    · have C0 : decide (6442450944 ≤ m.1) = false := decide_eq_false (by rw [pm]; intro x; have := key.1 x; omega)
      have st := logP_start H_.out p0 pe c pm
      clear key c pm pe
      rename World => wA
      go_wp2_with fail
      go_loopw [3] (fun x wr => ∃ (E : Int) (m : Iv), x = .int .i64 E ∧ -32 ≤ E ∧ E ≤ 40 ∧ LogP n E m ∧ Own wr (w.heap.size + 1) 0 (.int .i64 m.1) ∧ Own wr (w.heap.size + 1) 1 (.int .i64 m.2) ∧ Own wr w.heap.size 0 (.int .i64 0) ∧ Own wr w.heap.size 1 (.int .i64 0) ∧ Below w.heap.size w wr) (fun x _ => (intOf x + 50).toNat)
      case atStart => exact ⟨E, m, rfl, by omega, p1, st, m0, m1, r0, r1, hb⟩
      case round =>
        clear st p0 p1 m0 m1 r0 r1 hb hsz cm0 fm0 cm1 fm1 C0
        obtain ⟨E, m, rfl, p0, p1, st, m0', m1', r0', r1', hb⟩ := hrel
        have hsz := hb.size
        obtain ⟨cm0, fm0⟩ := id m0'
        obtain ⟨cm1, fm1⟩ := id m1'
        rcases logP_go H_.out st with ⟨c, k, hk, k0, k1, ke⟩ | ⟨c, hE, hM⟩
        · have C0 : decide (m.1 < 3221225472) = true := decide_eq_true c
          obtain ⟨q, hq⟩ : ∃ q, q = k + 1 := ⟨_, rfl⟩
          obtain ⟨E', hE'⟩ : ∃ E', E' = -q := ⟨_, rfl⟩
          have st' := logP_next k0 k1 ke hq hE'
          have dn := logD_in H_.out (show 0 ≤ q by omega) (by omega) (by omega)
          have WK : E - 1 = E' := by omega
          have WP : IntKind.i64.wrap (E - 1) = E' := by rw [WK]; exact wrapS (by unfold In64; omega)
          have WQ : -E' = q := by omega
          have WN : IntKind.i64.wrap (-E') = q := by rw [WQ]; exact wrapS (by unfold In64; omega)
          have WU : IntKind.u64.wrap q = q := by rw [IntKind.wrap_u64]; omega
          have WM : wrap64 (n * 2 ^ q.toNat) = n * 2 ^ q.toNat := by rw [wrap64_def]; omega
          have q0 : 0 ≤ q := by omega
          have q1 : q ≤ 32 := by omega
          have E0 : -32 ≤ E' := by omega
          have E1 : E' ≤ 40 := by omega
          clear hE' hq hk ke c st dn
          go_wp2
          go_roundw
          case rel => exact ⟨E', logD n q, rfl, E0, E1, st', own_next (by decide) (own_put m0'), own_put (own_next (by decide) m1'), own_far (by dsimp only; omega) (own_far (by dsimp only; omega) r0'), own_far (by dsimp only; omega) (own_far (by dsimp only; omega) r1'), belB⟩
          case measure => first | (simp [intOf]; done) | (simp [intOf]; omega)
        · have C0 : decide (m.1 < 3221225472) = false := decide_eq_false c
          have HZ : logZ n = divI (subI m (intI 1)) (addI m (intI 1)) := by unfold logZ; rw [← hM]
          have HF : logF n = addI (ln2 E) (logW (logZ n)) := by rw [logF_yes H_.out, hE]
          have HW : logW (logZ n) = addI (mulI (mulI (intI 2) (logZ n)) (logL (sqrI (logZ n)) 5)) tin := rfl
          obtain ⟨y, hy⟩ : ∃ y, y = logF n := ⟨_, rfl⟩
          have EY := Lib.hid hy.symm
          obtain ⟨z, hz⟩ : ∃ z, z = logZ n := ⟨_, rfl⟩
          obtain ⟨y2, hy2⟩ : ∃ y2, y2 = logW (logZ n) := ⟨_, rfl⟩
          have L2 := Lib.hid (fun w => sLogTwoI_any E w)
          have AF := fun w => sAddI_any (ln2 E) (logW (logZ n)) w
          rw [← HF, ← hy, ← hy2] at AF
          have SB := Lib.hid (fun w => sSubI_any m (intI 1) w)
          have AD := Lib.hid (fun w => sAddI_any m (intI 1) w)
          have DV := fun w => sDivI_any (subI m (intI 1)) (addI m (intI 1)) w
          rw [← HZ, ← hz] at DV
          have SQ := Lib.hid (fun w => sSqrI_any z w)
          have Q11 := Lib.hid (fun w => sQuotient_any 1 11 (by unfold In64; omega) (by unfold In64; omega) w)
          have I2 := Lib.hid (fun w => sInteger_any 2 (by unfold In64; omega) w)
          have MA := Lib.hid (fun w => sMulI_any (intI 2) z w)
          have MB := Lib.hid (fun w => sMulI_any (mulI (intI 2) z) (logL (sqrI z) 5) w)
          have WD := fun w => l08Widen_any (mulI (mulI (intI 2) z) (logL (sqrI z) 5)) (mul_res _ _) w
          rw [← hz] at HW
          rw [← HW, hz, ← hy2] at WD
          rw [← hz] at WD
          have DV_ := Lib.hid DV
          have AF_ := Lib.hid AF
          have WD_ := Lib.hid WD
          clear DV AF WD
          have DV := DV_
          have AF := AF_
          have WD := WD_
          clear DV_ AF_ WD_ HZ HF HW hy hz hy2 hE hM st c
          have I1 := O1
          generalize mulI (mulI (intI 2) z) (logL (sqrI z) 5) = mb at *
          generalize mulI (intI 2) z = ma at *
          generalize subI m (intI 1) = s1 at *
          generalize addI m (intI 1) = s2 at *
          generalize intI 1 = i1 at *
          generalize intI 2 = i2 at *
          generalize ln2 E = l2 at *
          generalize sqrI z = q at *
          obtain ⟨g, hg'⟩ : ∃ g, g = w.heap.size + 1 := ⟨_, rfl⟩
          rename World => u
          go_upto_region 11 with fail
          rw [← hg'] at cm0 cm1 m0' m1' ⊢
          have lrg : w.heap.size < g := by omega
          have lu : g < u.heap.size := World.block_lt_of_cell? _ _ cm0
          have bu := hb
          clear hg' O1
          go_cut [5] (fun s5 wx => ∃ h : Nat, s5 = .pointer (some ⟨h, 0, none⟩) ∧ Own wx h 0 (.int .i64 z.1) ∧ Own wx h 1 (.int .i64 z.2) ∧ w.heap.size < h ∧ Own wx w.heap.size 0 (.int .i64 0) ∧ Own wx w.heap.size 1 (.int .i64 0) ∧ Below w.heap.size w wx)
          case first =>
            have o_m0 := m0'
            have o_m1 := m1'
            have o_r0 := r0'
            have o_r1 := r1'
            refine AnyS.region (S := StayS (fun u => u.cell? ⟨g, 0, none⟩ = some (.int .i64 m.1) ∧ u.cell? ⟨g, 1, none⟩ = some (.int .i64 m.2))) (by kernel_rfl) (show AnyS _ _ _ _ _ 9 _ _ _ from ?_)
            have o_m0_0 := own_drew o_m0
            have o_m1_0 := own_drew o_m1
            have o_r0_0 := own_drew o_r0
            have o_r1_0 := own_drew o_r1
            refine AnyS.take (i := 0) (v := .agg #[.int .i64 m.1, .int .i64 m.2]) (T := fun u => u.cell? ⟨g, 0, none⟩ = some (.int .i64 m.1) ∧ u.cell? ⟨g, 1, none⟩ = some (.int .i64 m.2)) [] rfl (by kernel_rfl) (by kernel_rfl) (by kernel_rfl) (by kernel_rfl) (by kernel_rfl) (fun _ _ _ h => h) (fun L u q s => s) (fun L u s => s) (Or.inl ⟨by rfl, ?_⟩) (StayS.mk ⟨o_m0_0.1, o_m1_0.1⟩) ?_
            · intro u hu
              obtain ⟨u0, u1⟩ := hu
              go_simp
            try simp only [Act.put, List.setIfInBounds_toArray, List.set_cons_zero, List.set_cons_succ]
            refine AnyS.take (i := 3) (v := .agg #[.int .i64 m.1, .int .i64 m.2]) (T := fun u => u.cell? ⟨g, 0, none⟩ = some (.int .i64 m.1) ∧ u.cell? ⟨g, 1, none⟩ = some (.int .i64 m.2)) [] rfl (by kernel_rfl) (by kernel_rfl) (by kernel_rfl) (by kernel_rfl) (by kernel_rfl) (fun _ _ _ h => h) (fun L u q s => s) (fun L u s => s) (Or.inl ⟨by rfl, ?_⟩) (StayS.mk ⟨o_m0_0.1, o_m1_0.1⟩) ?_
            · intro u hu
              obtain ⟨u0, u1⟩ := hu
              go_simp
            try simp only [Act.put, List.setIfInBounds_toArray, List.set_cons_zero, List.set_cons_succ]
            obtain ⟨wd, hwd⟩ : ∃ x, x = u.drew := ⟨_, rfl⟩
            rw [← hwd]
            have o_m0_d : Own wd g 0 (.int .i64 m.1) := by rw [hwd]; exact o_m0_0
            have o_m1_d : Own wd g 1 (.int .i64 m.2) := by rw [hwd]; exact o_m1_0
            have o_r0_d : Own wd w.heap.size 0 (.int .i64 0) := by rw [hwd]; exact o_r0_0
            have o_r1_d : Own wd w.heap.size 1 (.int .i64 0) := by rw [hwd]; exact o_r1_0
            have bwd : Below w.heap.size w wd := by rw [hwd]; exact belB
            clear hwd
            refine AnyS.two (i := 1) (j := 7) (by kernel_rfl) (AnyS.comes rfl (fun K hK => ?_)) (AnyS.comes rfl (fun K hK => ?_))
            · go_simp
              refine (I1.out _).mono ?_
              rintro e wb0 ⟨rfl, hbb0⟩
              have hsb0 : _ ≤ wb0.heap.size := hbb0.size
              try simp at hsb0
              have o_m0_b0 : Own wb0 g 0 (.int .i64 m.1) := own_kept hbb0 o_m0_d
              have o_m1_b0 : Own wb0 g 1 (.int .i64 m.2) := own_kept hbb0 o_m1_d
              have o_r0_b0 : Own wb0 w.heap.size 0 (.int .i64 0) := own_kept hbb0 o_r0_d
              have o_r1_b0 : Own wb0 w.heap.size 1 (.int .i64 0) := own_kept hbb0 o_r1_d
              have bwb0 : Below w.heap.size w wb0 := bwd.trans (hbb0.mono bwd.size)
              clear hbb0
              go_wp2_with fail
              refine hK.out _ _ (StayS.mk ⟨o_m0_b0.1, o_m1_b0.1⟩) ?_
              clear hK K
              try simp only [Act.put, List.setIfInBounds_toArray, List.set_cons_zero, List.set_cons_succ]
              refine AnyS.two (i := 2) (j := 7) (by kernel_rfl) (AnyS.comes rfl (fun K hK => ?_)) (AnyS.comes rfl (fun K hK => ?_))
              · go_simp
                refine (SB.out _).mono ?_
                rintro e wb1 ⟨rfl, hbb1⟩
                have hsb1 : _ ≤ wb1.heap.size := hbb1.size
                try simp at hsb1
                have o_m0_b1 : Own wb1 g 0 (.int .i64 m.1) := own_kept hbb1 o_m0_b0
                have o_m1_b1 : Own wb1 g 1 (.int .i64 m.2) := own_kept hbb1 o_m1_b0
                have o_r0_b1 : Own wb1 w.heap.size 0 (.int .i64 0) := own_kept hbb1 o_r0_b0
                have o_r1_b1 : Own wb1 w.heap.size 1 (.int .i64 0) := own_kept hbb1 o_r1_b0
                have bwb1 : Below w.heap.size w wb1 := bwb0.trans (hbb1.mono bwb0.size)
                clear hbb1
                go_wp2_with fail
                refine hK.out _ _ (StayS.mk ⟨o_m0_b1.1, o_m1_b1.1⟩) ?_
                clear hK K
                try simp only [Act.put, List.setIfInBounds_toArray, List.set_cons_zero, List.set_cons_succ]
                refine AnyS.two (i := 4) (j := 7) (by kernel_rfl) (AnyS.comes rfl (fun K hK => ?_)) (AnyS.comes rfl (fun K hK => ?_))
                · go_simp
                  refine (I1.out _).mono ?_
                  rintro e wb2 ⟨rfl, hbb2⟩
                  have hsb2 : _ ≤ wb2.heap.size := hbb2.size
                  try simp at hsb2
                  have o_m0_b2 : Own wb2 g 0 (.int .i64 m.1) := own_kept hbb2 o_m0_b1
                  have o_m1_b2 : Own wb2 g 1 (.int .i64 m.2) := own_kept hbb2 o_m1_b1
                  have o_r0_b2 : Own wb2 w.heap.size 0 (.int .i64 0) := own_kept hbb2 o_r0_b1
                  have o_r1_b2 : Own wb2 w.heap.size 1 (.int .i64 0) := own_kept hbb2 o_r1_b1
                  have bwb2 : Below w.heap.size w wb2 := bwb1.trans (hbb2.mono bwb1.size)
                  clear hbb2
                  go_wp2_with fail
                  refine hK.out _ _ (StayS.mk ⟨o_m0_b2.1, o_m1_b2.1⟩) ?_
                  clear hK K
                  try simp only [Act.put, List.setIfInBounds_toArray, List.set_cons_zero, List.set_cons_succ]
                  refine AnyS.two (i := 5) (j := 7) (by kernel_rfl) (AnyS.comes rfl (fun K hK => ?_)) (AnyS.comes rfl (fun K hK => ?_))
                  · go_simp
                    refine (AD.out _).mono ?_
                    rintro e wb3 ⟨rfl, hbb3⟩
                    have hsb3 : _ ≤ wb3.heap.size := hbb3.size
                    try simp at hsb3
                    have o_m0_b3 : Own wb3 g 0 (.int .i64 m.1) := own_kept hbb3 o_m0_b2
                    have o_m1_b3 : Own wb3 g 1 (.int .i64 m.2) := own_kept hbb3 o_m1_b2
                    have o_r0_b3 : Own wb3 w.heap.size 0 (.int .i64 0) := own_kept hbb3 o_r0_b2
                    have o_r1_b3 : Own wb3 w.heap.size 1 (.int .i64 0) := own_kept hbb3 o_r1_b2
                    have bwb3 : Below w.heap.size w wb3 := bwb2.trans (hbb3.mono bwb2.size)
                    clear hbb3
                    go_wp2_with fail
                    refine hK.out _ _ (StayS.mk ⟨o_m0_b3.1, o_m1_b3.1⟩) ?_
                    clear hK K
                    try simp only [Act.put, List.setIfInBounds_toArray, List.set_cons_zero, List.set_cons_succ]
                    refine AnyS.two (i := 6) (j := 7) (by kernel_rfl) (AnyS.comes rfl (fun K hK => ?_)) (AnyS.comes rfl (fun K hK => ?_))
                    · go_simp
                      refine (DV.out _).mono ?_
                      rintro e wb4 ⟨rfl, hbb4⟩
                      have hsb4 : _ ≤ wb4.heap.size := hbb4.size
                      try simp at hsb4
                      have o_m0_b4 : Own wb4 g 0 (.int .i64 m.1) := own_kept hbb4 o_m0_b3
                      have o_m1_b4 : Own wb4 g 1 (.int .i64 m.2) := own_kept hbb4 o_m1_b3
                      have o_r0_b4 : Own wb4 w.heap.size 0 (.int .i64 0) := own_kept hbb4 o_r0_b3
                      have o_r1_b4 : Own wb4 w.heap.size 1 (.int .i64 0) := own_kept hbb4 o_r1_b3
                      have bwb4 : Below w.heap.size w wb4 := bwb3.trans (hbb4.mono bwb3.size)
                      clear hbb4
                      go_wp2_with fail
                      refine hK.out _ _ (StayS.mk ⟨o_m0_b4.1, o_m1_b4.1⟩) ?_
                      clear hK K
                      try simp only [Act.put, List.setIfInBounds_toArray, List.set_cons_zero, List.set_cons_succ]
                      refine AnyS.one (i := 7) (by kernel_rfl) (AnyS.comes rfl (fun K hK => ?_))
                      go_simp
                      obtain ⟨h, hh⟩ : ∃ h, h = wb4.heap.size := ⟨_, rfl⟩
                      obtain ⟨wal, ha⟩ : ∃ x, x = wb4.alloc (.cells #[.int .i64 0, .int .i64 0] 26) := ⟨_, rfl⟩
                      skip
                      rw [← ha]
                      have o_H0_al : Own wal h 0 (.int .i64 0) := by rw [ha, hh]; exact ⟨by simp [go_sem], by simp [go_sem]⟩
                      have o_H1_al : Own wal h 1 (.int .i64 0) := by rw [ha, hh]; exact ⟨by simp [go_sem], by simp [go_sem]⟩
                      have o_m0_al : Own wal g 0 (.int .i64 m.1) := by rw [ha]; exact own_alloc o_m0_b4
                      have o_m1_al : Own wal g 1 (.int .i64 m.2) := by rw [ha]; exact own_alloc o_m1_b4
                      have o_r0_al : Own wal w.heap.size 0 (.int .i64 0) := by rw [ha]; exact own_alloc o_r0_b4
                      have o_r1_al : Own wal w.heap.size 1 (.int .i64 0) := by rw [ha]; exact own_alloc o_r1_b4
                      have lh_m : g < h := by rw [hh]; exact World.block_lt_of_cell? _ _ o_m0_b4.1
                      have lh_r : w.heap.size < h := by rw [hh]; exact World.block_lt_of_cell? _ _ o_r0_b4.1
                      have bwal : Below w.heap.size w wal := by rw [ha]; exact bwb4.alloc bwb4.size _
                      try rw [← hh]
                      clear ha hh
                      refine hK.out _ _ (StayS.mk ⟨o_m0_al.1, o_m1_al.1⟩) ?_
                      clear hK K
                      try simp only [Act.put, List.setIfInBounds_toArray, List.set_cons_zero, List.set_cons_succ]
                      have cH0 := o_H0_al.1
                      have cH1 := o_H1_al.1
                      have fH0 := o_H0_al.2
                      have fH1 := o_H1_al.2
                      refine AnyS.one (i := 8) (by kernel_rfl) (AnyS.comes rfl (fun K hK => ?_))
                      go_simp
                      refine hK.out _ _ (StayS.mk ⟨cell_far (by dsimp only; omega) (cell_far (by dsimp only; omega) o_m0_al.1), cell_far (by dsimp only; omega) (cell_far (by dsimp only; omega) o_m1_al.1)⟩) ?_
                      clear hK K
                      try simp only [Act.put, List.setIfInBounds_toArray, List.set_cons_zero, List.set_cons_succ]
                      refine AnyS.done (by kernel_rfl) ?_ _
                      go_wp2_with fail
                      go_meet
                      exact ⟨h, rfl, own_next (by decide) (own_put o_H0_al), own_put (own_next (by decide) o_H1_al), by omega, own_far (by dsimp only; omega) (own_far (by dsimp only; omega) o_r0_al), own_far (by dsimp only; omega) (own_far (by dsimp only; omega) o_r1_al), belB⟩
                    · go_simp
                      obtain ⟨h, hh⟩ : ∃ h, h = wb3.heap.size := ⟨_, rfl⟩
                      obtain ⟨wal, ha⟩ : ∃ x, x = wb3.alloc (.cells #[.int .i64 0, .int .i64 0] 26) := ⟨_, rfl⟩
                      skip
                      rw [← ha]
                      have o_H0_al : Own wal h 0 (.int .i64 0) := by rw [ha, hh]; exact ⟨by simp [go_sem], by simp [go_sem]⟩
                      have o_H1_al : Own wal h 1 (.int .i64 0) := by rw [ha, hh]; exact ⟨by simp [go_sem], by simp [go_sem]⟩
                      have o_m0_al : Own wal g 0 (.int .i64 m.1) := by rw [ha]; exact own_alloc o_m0_b3
                      have o_m1_al : Own wal g 1 (.int .i64 m.2) := by rw [ha]; exact own_alloc o_m1_b3
                      have o_r0_al : Own wal w.heap.size 0 (.int .i64 0) := by rw [ha]; exact own_alloc o_r0_b3
                      have o_r1_al : Own wal w.heap.size 1 (.int .i64 0) := by rw [ha]; exact own_alloc o_r1_b3
                      have lh_m : g < h := by rw [hh]; exact World.block_lt_of_cell? _ _ o_m0_b3.1
                      have lh_r : w.heap.size < h := by rw [hh]; exact World.block_lt_of_cell? _ _ o_r0_b3.1
                      have bwal : Below w.heap.size w wal := by rw [ha]; exact bwb3.alloc bwb3.size _
                      try rw [← hh]
                      clear ha hh
                      refine hK.out _ _ (StayS.mk ⟨o_m0_al.1, o_m1_al.1⟩) ?_
                      clear hK K
                      try simp only [Act.put, List.setIfInBounds_toArray, List.set_cons_zero, List.set_cons_succ]
                      refine AnyS.one (i := 6) (by kernel_rfl) (AnyS.comes rfl (fun K hK => ?_))
                      go_simp
                      refine (DV.out _).mono ?_
                      rintro e wc4 ⟨rfl, hbc4⟩
                      have hsc4 : _ ≤ wc4.heap.size := hbc4.size
                      try simp at hsc4
                      have o_m0_c4 : Own wc4 g 0 (.int .i64 m.1) := own_kept hbc4 o_m0_al
                      have o_m1_c4 : Own wc4 g 1 (.int .i64 m.2) := own_kept hbc4 o_m1_al
                      have o_r0_c4 : Own wc4 w.heap.size 0 (.int .i64 0) := own_kept hbc4 o_r0_al
                      have o_r1_c4 : Own wc4 w.heap.size 1 (.int .i64 0) := own_kept hbc4 o_r1_al
                      have o_H0_c4 : Own wc4 h 0 (.int .i64 0) := own_kept hbc4 o_H0_al
                      have o_H1_c4 : Own wc4 h 1 (.int .i64 0) := own_kept hbc4 o_H1_al
                      have bwc4 : Below w.heap.size w wc4 := bwal.trans (hbc4.mono bwal.size)
                      clear hbc4
                      go_wp2_with fail
                      refine hK.out _ _ (StayS.mk ⟨o_m0_c4.1, o_m1_c4.1⟩) ?_
                      clear hK K
                      try simp only [Act.put, List.setIfInBounds_toArray, List.set_cons_zero, List.set_cons_succ]
                      have cH0 := o_H0_c4.1
                      have cH1 := o_H1_c4.1
                      have fH0 := o_H0_c4.2
                      have fH1 := o_H1_c4.2
                      refine AnyS.one (i := 8) (by kernel_rfl) (AnyS.comes rfl (fun K hK => ?_))
                      go_simp
                      refine hK.out _ _ (StayS.mk ⟨cell_far (by dsimp only; omega) (cell_far (by dsimp only; omega) o_m0_c4.1), cell_far (by dsimp only; omega) (cell_far (by dsimp only; omega) o_m1_c4.1)⟩) ?_
                      clear hK K
                      try simp only [Act.put, List.setIfInBounds_toArray, List.set_cons_zero, List.set_cons_succ]
                      refine AnyS.done (by kernel_rfl) ?_ _
                      go_wp2_with fail
                      go_meet
                      exact ⟨h, rfl, own_next (by decide) (own_put o_H0_c4), own_put (own_next (by decide) o_H1_c4), by omega, own_far (by dsimp only; omega) (own_far (by dsimp only; omega) o_r0_c4), own_far (by dsimp only; omega) (own_far (by dsimp only; omega) o_r1_c4), belB⟩
                  · go_simp
                    obtain ⟨h, hh⟩ : ∃ h, h = wb2.heap.size := ⟨_, rfl⟩
                    obtain ⟨wal, ha⟩ : ∃ x, x = wb2.alloc (.cells #[.int .i64 0, .int .i64 0] 26) := ⟨_, rfl⟩
                    skip
                    rw [← ha]
                    have o_H0_al : Own wal h 0 (.int .i64 0) := by rw [ha, hh]; exact ⟨by simp [go_sem], by simp [go_sem]⟩
                    have o_H1_al : Own wal h 1 (.int .i64 0) := by rw [ha, hh]; exact ⟨by simp [go_sem], by simp [go_sem]⟩
                    have o_m0_al : Own wal g 0 (.int .i64 m.1) := by rw [ha]; exact own_alloc o_m0_b2
                    have o_m1_al : Own wal g 1 (.int .i64 m.2) := by rw [ha]; exact own_alloc o_m1_b2
                    have o_r0_al : Own wal w.heap.size 0 (.int .i64 0) := by rw [ha]; exact own_alloc o_r0_b2
                    have o_r1_al : Own wal w.heap.size 1 (.int .i64 0) := by rw [ha]; exact own_alloc o_r1_b2
                    have lh_m : g < h := by rw [hh]; exact World.block_lt_of_cell? _ _ o_m0_b2.1
                    have lh_r : w.heap.size < h := by rw [hh]; exact World.block_lt_of_cell? _ _ o_r0_b2.1
                    have bwal : Below w.heap.size w wal := by rw [ha]; exact bwb2.alloc bwb2.size _
                    try rw [← hh]
                    clear ha hh
                    refine hK.out _ _ (StayS.mk ⟨o_m0_al.1, o_m1_al.1⟩) ?_
                    clear hK K
                    try simp only [Act.put, List.setIfInBounds_toArray, List.set_cons_zero, List.set_cons_succ]
                    refine AnyS.one (i := 5) (by kernel_rfl) (AnyS.comes rfl (fun K hK => ?_))
                    go_simp
                    refine (AD.out _).mono ?_
                    rintro e wc3 ⟨rfl, hbc3⟩
                    have hsc3 : _ ≤ wc3.heap.size := hbc3.size
                    try simp at hsc3
                    have o_m0_c3 : Own wc3 g 0 (.int .i64 m.1) := own_kept hbc3 o_m0_al
                    have o_m1_c3 : Own wc3 g 1 (.int .i64 m.2) := own_kept hbc3 o_m1_al
                    have o_r0_c3 : Own wc3 w.heap.size 0 (.int .i64 0) := own_kept hbc3 o_r0_al
                    have o_r1_c3 : Own wc3 w.heap.size 1 (.int .i64 0) := own_kept hbc3 o_r1_al
                    have o_H0_c3 : Own wc3 h 0 (.int .i64 0) := own_kept hbc3 o_H0_al
                    have o_H1_c3 : Own wc3 h 1 (.int .i64 0) := own_kept hbc3 o_H1_al
                    have bwc3 : Below w.heap.size w wc3 := bwal.trans (hbc3.mono bwal.size)
                    clear hbc3
                    go_wp2_with fail
                    refine hK.out _ _ (StayS.mk ⟨o_m0_c3.1, o_m1_c3.1⟩) ?_
                    clear hK K
                    try simp only [Act.put, List.setIfInBounds_toArray, List.set_cons_zero, List.set_cons_succ]
                    refine AnyS.one (i := 6) (by kernel_rfl) (AnyS.comes rfl (fun K hK => ?_))
                    go_simp
                    refine (DV.out _).mono ?_
                    rintro e wc4 ⟨rfl, hbc4⟩
                    have hsc4 : _ ≤ wc4.heap.size := hbc4.size
                    try simp at hsc4
                    have o_m0_c4 : Own wc4 g 0 (.int .i64 m.1) := own_kept hbc4 o_m0_c3
                    have o_m1_c4 : Own wc4 g 1 (.int .i64 m.2) := own_kept hbc4 o_m1_c3
                    have o_r0_c4 : Own wc4 w.heap.size 0 (.int .i64 0) := own_kept hbc4 o_r0_c3
                    have o_r1_c4 : Own wc4 w.heap.size 1 (.int .i64 0) := own_kept hbc4 o_r1_c3
                    have o_H0_c4 : Own wc4 h 0 (.int .i64 0) := own_kept hbc4 o_H0_c3
                    have o_H1_c4 : Own wc4 h 1 (.int .i64 0) := own_kept hbc4 o_H1_c3
                    have bwc4 : Below w.heap.size w wc4 := bwc3.trans (hbc4.mono bwc3.size)
                    clear hbc4
                    go_wp2_with fail
                    refine hK.out _ _ (StayS.mk ⟨o_m0_c4.1, o_m1_c4.1⟩) ?_
                    clear hK K
                    try simp only [Act.put, List.setIfInBounds_toArray, List.set_cons_zero, List.set_cons_succ]
                    have cH0 := o_H0_c4.1
                    have cH1 := o_H1_c4.1
                    have fH0 := o_H0_c4.2
                    have fH1 := o_H1_c4.2
                    refine AnyS.one (i := 8) (by kernel_rfl) (AnyS.comes rfl (fun K hK => ?_))
                    go_simp
                    refine hK.out _ _ (StayS.mk ⟨cell_far (by dsimp only; omega) (cell_far (by dsimp only; omega) o_m0_c4.1), cell_far (by dsimp only; omega) (cell_far (by dsimp only; omega) o_m1_c4.1)⟩) ?_
                    clear hK K
                    try simp only [Act.put, List.setIfInBounds_toArray, List.set_cons_zero, List.set_cons_succ]
                    refine AnyS.done (by kernel_rfl) ?_ _
                    go_wp2_with fail
                    go_meet
                    exact ⟨h, rfl, own_next (by decide) (own_put o_H0_c4), own_put (own_next (by decide) o_H1_c4), by omega, own_far (by dsimp only; omega) (own_far (by dsimp only; omega) o_r0_c4), own_far (by dsimp only; omega) (own_far (by dsimp only; omega) o_r1_c4), belB⟩
                · go_simp
                  obtain ⟨h, hh⟩ : ∃ h, h = wb1.heap.size := ⟨_, rfl⟩
                  obtain ⟨wal, ha⟩ : ∃ x, x = wb1.alloc (.cells #[.int .i64 0, .int .i64 0] 26) := ⟨_, rfl⟩
                  skip
                  rw [← ha]
                  have o_H0_al : Own wal h 0 (.int .i64 0) := by rw [ha, hh]; exact ⟨by simp [go_sem], by simp [go_sem]⟩
                  have o_H1_al : Own wal h 1 (.int .i64 0) := by rw [ha, hh]; exact ⟨by simp [go_sem], by simp [go_sem]⟩
                  have o_m0_al : Own wal g 0 (.int .i64 m.1) := by rw [ha]; exact own_alloc o_m0_b1
                  have o_m1_al : Own wal g 1 (.int .i64 m.2) := by rw [ha]; exact own_alloc o_m1_b1
                  have o_r0_al : Own wal w.heap.size 0 (.int .i64 0) := by rw [ha]; exact own_alloc o_r0_b1
                  have o_r1_al : Own wal w.heap.size 1 (.int .i64 0) := by rw [ha]; exact own_alloc o_r1_b1
                  have lh_m : g < h := by rw [hh]; exact World.block_lt_of_cell? _ _ o_m0_b1.1
                  have lh_r : w.heap.size < h := by rw [hh]; exact World.block_lt_of_cell? _ _ o_r0_b1.1
                  have bwal : Below w.heap.size w wal := by rw [ha]; exact bwb1.alloc bwb1.size _
                  try rw [← hh]
                  clear ha hh
                  refine hK.out _ _ (StayS.mk ⟨o_m0_al.1, o_m1_al.1⟩) ?_
                  clear hK K
                  try simp only [Act.put, List.setIfInBounds_toArray, List.set_cons_zero, List.set_cons_succ]
                  refine AnyS.one (i := 4) (by kernel_rfl) (AnyS.comes rfl (fun K hK => ?_))
                  go_simp
                  refine (I1.out _).mono ?_
                  rintro e wc2 ⟨rfl, hbc2⟩
                  have hsc2 : _ ≤ wc2.heap.size := hbc2.size
                  try simp at hsc2
                  have o_m0_c2 : Own wc2 g 0 (.int .i64 m.1) := own_kept hbc2 o_m0_al
                  have o_m1_c2 : Own wc2 g 1 (.int .i64 m.2) := own_kept hbc2 o_m1_al
                  have o_r0_c2 : Own wc2 w.heap.size 0 (.int .i64 0) := own_kept hbc2 o_r0_al
                  have o_r1_c2 : Own wc2 w.heap.size 1 (.int .i64 0) := own_kept hbc2 o_r1_al
                  have o_H0_c2 : Own wc2 h 0 (.int .i64 0) := own_kept hbc2 o_H0_al
                  have o_H1_c2 : Own wc2 h 1 (.int .i64 0) := own_kept hbc2 o_H1_al
                  have bwc2 : Below w.heap.size w wc2 := bwal.trans (hbc2.mono bwal.size)
                  clear hbc2
                  go_wp2_with fail
                  refine hK.out _ _ (StayS.mk ⟨o_m0_c2.1, o_m1_c2.1⟩) ?_
                  clear hK K
                  try simp only [Act.put, List.setIfInBounds_toArray, List.set_cons_zero, List.set_cons_succ]
                  refine AnyS.one (i := 5) (by kernel_rfl) (AnyS.comes rfl (fun K hK => ?_))
                  go_simp
                  refine (AD.out _).mono ?_
                  rintro e wc3 ⟨rfl, hbc3⟩
                  have hsc3 : _ ≤ wc3.heap.size := hbc3.size
                  try simp at hsc3
                  have o_m0_c3 : Own wc3 g 0 (.int .i64 m.1) := own_kept hbc3 o_m0_c2
                  have o_m1_c3 : Own wc3 g 1 (.int .i64 m.2) := own_kept hbc3 o_m1_c2
                  have o_r0_c3 : Own wc3 w.heap.size 0 (.int .i64 0) := own_kept hbc3 o_r0_c2
                  have o_r1_c3 : Own wc3 w.heap.size 1 (.int .i64 0) := own_kept hbc3 o_r1_c2
                  have o_H0_c3 : Own wc3 h 0 (.int .i64 0) := own_kept hbc3 o_H0_c2
                  have o_H1_c3 : Own wc3 h 1 (.int .i64 0) := own_kept hbc3 o_H1_c2
                  have bwc3 : Below w.heap.size w wc3 := bwc2.trans (hbc3.mono bwc2.size)
                  clear hbc3
                  go_wp2_with fail
                  refine hK.out _ _ (StayS.mk ⟨o_m0_c3.1, o_m1_c3.1⟩) ?_
                  clear hK K
                  try simp only [Act.put, List.setIfInBounds_toArray, List.set_cons_zero, List.set_cons_succ]
                  refine AnyS.one (i := 6) (by kernel_rfl) (AnyS.comes rfl (fun K hK => ?_))
                  go_simp
                  refine (DV.out _).mono ?_
                  rintro e wc4 ⟨rfl, hbc4⟩
                  have hsc4 : _ ≤ wc4.heap.size := hbc4.size
                  try simp at hsc4
                  have o_m0_c4 : Own wc4 g 0 (.int .i64 m.1) := own_kept hbc4 o_m0_c3
                  have o_m1_c4 : Own wc4 g 1 (.int .i64 m.2) := own_kept hbc4 o_m1_c3
                  have o_r0_c4 : Own wc4 w.heap.size 0 (.int .i64 0) := own_kept hbc4 o_r0_c3
                  have o_r1_c4 : Own wc4 w.heap.size 1 (.int .i64 0) := own_kept hbc4 o_r1_c3
                  have o_H0_c4 : Own wc4 h 0 (.int .i64 0) := own_kept hbc4 o_H0_c3
                  have o_H1_c4 : Own wc4 h 1 (.int .i64 0) := own_kept hbc4 o_H1_c3
                  have bwc4 : Below w.heap.size w wc4 := bwc3.trans (hbc4.mono bwc3.size)
                  clear hbc4
                  go_wp2_with fail
                  refine hK.out _ _ (StayS.mk ⟨o_m0_c4.1, o_m1_c4.1⟩) ?_
                  clear hK K
                  try simp only [Act.put, List.setIfInBounds_toArray, List.set_cons_zero, List.set_cons_succ]
                  have cH0 := o_H0_c4.1
                  have cH1 := o_H1_c4.1
                  have fH0 := o_H0_c4.2
                  have fH1 := o_H1_c4.2
                  refine AnyS.one (i := 8) (by kernel_rfl) (AnyS.comes rfl (fun K hK => ?_))
                  go_simp
                  refine hK.out _ _ (StayS.mk ⟨cell_far (by dsimp only; omega) (cell_far (by dsimp only; omega) o_m0_c4.1), cell_far (by dsimp only; omega) (cell_far (by dsimp only; omega) o_m1_c4.1)⟩) ?_
                  clear hK K
                  try simp only [Act.put, List.setIfInBounds_toArray, List.set_cons_zero, List.set_cons_succ]
                  refine AnyS.done (by kernel_rfl) ?_ _
                  go_wp2_with fail
                  go_meet
                  exact ⟨h, rfl, own_next (by decide) (own_put o_H0_c4), own_put (own_next (by decide) o_H1_c4), by omega, own_far (by dsimp only; omega) (own_far (by dsimp only; omega) o_r0_c4), own_far (by dsimp only; omega) (own_far (by dsimp only; omega) o_r1_c4), belB⟩
              · go_simp
                obtain ⟨h, hh⟩ : ∃ h, h = wb0.heap.size := ⟨_, rfl⟩
                obtain ⟨wal, ha⟩ : ∃ x, x = wb0.alloc (.cells #[.int .i64 0, .int .i64 0] 26) := ⟨_, rfl⟩
                skip
                rw [← ha]
                have o_H0_al : Own wal h 0 (.int .i64 0) := by rw [ha, hh]; exact ⟨by simp [go_sem], by simp [go_sem]⟩
                have o_H1_al : Own wal h 1 (.int .i64 0) := by rw [ha, hh]; exact ⟨by simp [go_sem], by simp [go_sem]⟩
                have o_m0_al : Own wal g 0 (.int .i64 m.1) := by rw [ha]; exact own_alloc o_m0_b0
                have o_m1_al : Own wal g 1 (.int .i64 m.2) := by rw [ha]; exact own_alloc o_m1_b0
                have o_r0_al : Own wal w.heap.size 0 (.int .i64 0) := by rw [ha]; exact own_alloc o_r0_b0
                have o_r1_al : Own wal w.heap.size 1 (.int .i64 0) := by rw [ha]; exact own_alloc o_r1_b0
                have lh_m : g < h := by rw [hh]; exact World.block_lt_of_cell? _ _ o_m0_b0.1
                have lh_r : w.heap.size < h := by rw [hh]; exact World.block_lt_of_cell? _ _ o_r0_b0.1
                have bwal : Below w.heap.size w wal := by rw [ha]; exact bwb0.alloc bwb0.size _
                try rw [← hh]
                clear ha hh
                refine hK.out _ _ (StayS.mk ⟨o_m0_al.1, o_m1_al.1⟩) ?_
                clear hK K
                try simp only [Act.put, List.setIfInBounds_toArray, List.set_cons_zero, List.set_cons_succ]
                refine AnyS.one (i := 2) (by kernel_rfl) (AnyS.comes rfl (fun K hK => ?_))
                go_simp
                refine (SB.out _).mono ?_
                rintro e wc1 ⟨rfl, hbc1⟩
                have hsc1 : _ ≤ wc1.heap.size := hbc1.size
                try simp at hsc1
                have o_m0_c1 : Own wc1 g 0 (.int .i64 m.1) := own_kept hbc1 o_m0_al
                have o_m1_c1 : Own wc1 g 1 (.int .i64 m.2) := own_kept hbc1 o_m1_al
                have o_r0_c1 : Own wc1 w.heap.size 0 (.int .i64 0) := own_kept hbc1 o_r0_al
                have o_r1_c1 : Own wc1 w.heap.size 1 (.int .i64 0) := own_kept hbc1 o_r1_al
                have o_H0_c1 : Own wc1 h 0 (.int .i64 0) := own_kept hbc1 o_H0_al
                have o_H1_c1 : Own wc1 h 1 (.int .i64 0) := own_kept hbc1 o_H1_al
                have bwc1 : Below w.heap.size w wc1 := bwal.trans (hbc1.mono bwal.size)
                clear hbc1
                go_wp2_with fail
                refine hK.out _ _ (StayS.mk ⟨o_m0_c1.1, o_m1_c1.1⟩) ?_
                clear hK K
                try simp only [Act.put, List.setIfInBounds_toArray, List.set_cons_zero, List.set_cons_succ]
                refine AnyS.one (i := 4) (by kernel_rfl) (AnyS.comes rfl (fun K hK => ?_))
                go_simp
                refine (I1.out _).mono ?_
                rintro e wc2 ⟨rfl, hbc2⟩
                have hsc2 : _ ≤ wc2.heap.size := hbc2.size
                try simp at hsc2
                have o_m0_c2 : Own wc2 g 0 (.int .i64 m.1) := own_kept hbc2 o_m0_c1
                have o_m1_c2 : Own wc2 g 1 (.int .i64 m.2) := own_kept hbc2 o_m1_c1
                have o_r0_c2 : Own wc2 w.heap.size 0 (.int .i64 0) := own_kept hbc2 o_r0_c1
                have o_r1_c2 : Own wc2 w.heap.size 1 (.int .i64 0) := own_kept hbc2 o_r1_c1
                have o_H0_c2 : Own wc2 h 0 (.int .i64 0) := own_kept hbc2 o_H0_c1
                have o_H1_c2 : Own wc2 h 1 (.int .i64 0) := own_kept hbc2 o_H1_c1
                have bwc2 : Below w.heap.size w wc2 := bwc1.trans (hbc2.mono bwc1.size)
                clear hbc2
                go_wp2_with fail
                refine hK.out _ _ (StayS.mk ⟨o_m0_c2.1, o_m1_c2.1⟩) ?_
                clear hK K
                try simp only [Act.put, List.setIfInBounds_toArray, List.set_cons_zero, List.set_cons_succ]
                refine AnyS.one (i := 5) (by kernel_rfl) (AnyS.comes rfl (fun K hK => ?_))
                go_simp
                refine (AD.out _).mono ?_
                rintro e wc3 ⟨rfl, hbc3⟩
                have hsc3 : _ ≤ wc3.heap.size := hbc3.size
                try simp at hsc3
                have o_m0_c3 : Own wc3 g 0 (.int .i64 m.1) := own_kept hbc3 o_m0_c2
                have o_m1_c3 : Own wc3 g 1 (.int .i64 m.2) := own_kept hbc3 o_m1_c2
                have o_r0_c3 : Own wc3 w.heap.size 0 (.int .i64 0) := own_kept hbc3 o_r0_c2
                have o_r1_c3 : Own wc3 w.heap.size 1 (.int .i64 0) := own_kept hbc3 o_r1_c2
                have o_H0_c3 : Own wc3 h 0 (.int .i64 0) := own_kept hbc3 o_H0_c2
                have o_H1_c3 : Own wc3 h 1 (.int .i64 0) := own_kept hbc3 o_H1_c2
                have bwc3 : Below w.heap.size w wc3 := bwc2.trans (hbc3.mono bwc2.size)
                clear hbc3
                go_wp2_with fail
                refine hK.out _ _ (StayS.mk ⟨o_m0_c3.1, o_m1_c3.1⟩) ?_
                clear hK K
                try simp only [Act.put, List.setIfInBounds_toArray, List.set_cons_zero, List.set_cons_succ]
                refine AnyS.one (i := 6) (by kernel_rfl) (AnyS.comes rfl (fun K hK => ?_))
                go_simp
                refine (DV.out _).mono ?_
                rintro e wc4 ⟨rfl, hbc4⟩
                have hsc4 : _ ≤ wc4.heap.size := hbc4.size
                try simp at hsc4
                have o_m0_c4 : Own wc4 g 0 (.int .i64 m.1) := own_kept hbc4 o_m0_c3
                have o_m1_c4 : Own wc4 g 1 (.int .i64 m.2) := own_kept hbc4 o_m1_c3
                have o_r0_c4 : Own wc4 w.heap.size 0 (.int .i64 0) := own_kept hbc4 o_r0_c3
                have o_r1_c4 : Own wc4 w.heap.size 1 (.int .i64 0) := own_kept hbc4 o_r1_c3
                have o_H0_c4 : Own wc4 h 0 (.int .i64 0) := own_kept hbc4 o_H0_c3
                have o_H1_c4 : Own wc4 h 1 (.int .i64 0) := own_kept hbc4 o_H1_c3
                have bwc4 : Below w.heap.size w wc4 := bwc3.trans (hbc4.mono bwc3.size)
                clear hbc4
                go_wp2_with fail
                refine hK.out _ _ (StayS.mk ⟨o_m0_c4.1, o_m1_c4.1⟩) ?_
                clear hK K
                try simp only [Act.put, List.setIfInBounds_toArray, List.set_cons_zero, List.set_cons_succ]
                have cH0 := o_H0_c4.1
                have cH1 := o_H1_c4.1
                have fH0 := o_H0_c4.2
                have fH1 := o_H1_c4.2
                refine AnyS.one (i := 8) (by kernel_rfl) (AnyS.comes rfl (fun K hK => ?_))
                go_simp
                refine hK.out _ _ (StayS.mk ⟨cell_far (by dsimp only; omega) (cell_far (by dsimp only; omega) o_m0_c4.1), cell_far (by dsimp only; omega) (cell_far (by dsimp only; omega) o_m1_c4.1)⟩) ?_
                clear hK K
                try simp only [Act.put, List.setIfInBounds_toArray, List.set_cons_zero, List.set_cons_succ]
                refine AnyS.done (by kernel_rfl) ?_ _
                go_wp2_with fail
                go_meet
                exact ⟨h, rfl, own_next (by decide) (own_put o_H0_c4), own_put (own_next (by decide) o_H1_c4), by omega, own_far (by dsimp only; omega) (own_far (by dsimp only; omega) o_r0_c4), own_far (by dsimp only; omega) (own_far (by dsimp only; omega) o_r1_c4), belB⟩
            · go_simp
              obtain ⟨h, hh⟩ : ∃ h, h = wd.heap.size := ⟨_, rfl⟩
              obtain ⟨wal, ha⟩ : ∃ x, x = wd.alloc (.cells #[.int .i64 0, .int .i64 0] 26) := ⟨_, rfl⟩
              skip
              rw [← ha]
              have o_H0_al : Own wal h 0 (.int .i64 0) := by rw [ha, hh]; exact ⟨by simp [go_sem], by simp [go_sem]⟩
              have o_H1_al : Own wal h 1 (.int .i64 0) := by rw [ha, hh]; exact ⟨by simp [go_sem], by simp [go_sem]⟩
              have o_m0_al : Own wal g 0 (.int .i64 m.1) := by rw [ha]; exact own_alloc o_m0_d
              have o_m1_al : Own wal g 1 (.int .i64 m.2) := by rw [ha]; exact own_alloc o_m1_d
              have o_r0_al : Own wal w.heap.size 0 (.int .i64 0) := by rw [ha]; exact own_alloc o_r0_d
              have o_r1_al : Own wal w.heap.size 1 (.int .i64 0) := by rw [ha]; exact own_alloc o_r1_d
              have lh_m : g < h := by rw [hh]; exact World.block_lt_of_cell? _ _ o_m0_d.1
              have lh_r : w.heap.size < h := by rw [hh]; exact World.block_lt_of_cell? _ _ o_r0_d.1
              have bwal : Below w.heap.size w wal := by rw [ha]; exact bwd.alloc bwd.size _
              try rw [← hh]
              clear ha hh
              refine hK.out _ _ (StayS.mk ⟨o_m0_al.1, o_m1_al.1⟩) ?_
              clear hK K
              try simp only [Act.put, List.setIfInBounds_toArray, List.set_cons_zero, List.set_cons_succ]
              refine AnyS.one (i := 1) (by kernel_rfl) (AnyS.comes rfl (fun K hK => ?_))
              go_simp
              refine (I1.out _).mono ?_
              rintro e wc0 ⟨rfl, hbc0⟩
              have hsc0 : _ ≤ wc0.heap.size := hbc0.size
              try simp at hsc0
              have o_m0_c0 : Own wc0 g 0 (.int .i64 m.1) := own_kept hbc0 o_m0_al
              have o_m1_c0 : Own wc0 g 1 (.int .i64 m.2) := own_kept hbc0 o_m1_al
              have o_r0_c0 : Own wc0 w.heap.size 0 (.int .i64 0) := own_kept hbc0 o_r0_al
              have o_r1_c0 : Own wc0 w.heap.size 1 (.int .i64 0) := own_kept hbc0 o_r1_al
              have o_H0_c0 : Own wc0 h 0 (.int .i64 0) := own_kept hbc0 o_H0_al
              have o_H1_c0 : Own wc0 h 1 (.int .i64 0) := own_kept hbc0 o_H1_al
              have bwc0 : Below w.heap.size w wc0 := bwal.trans (hbc0.mono bwal.size)
              clear hbc0
              go_wp2_with fail
              refine hK.out _ _ (StayS.mk ⟨o_m0_c0.1, o_m1_c0.1⟩) ?_
              clear hK K
              try simp only [Act.put, List.setIfInBounds_toArray, List.set_cons_zero, List.set_cons_succ]
              refine AnyS.one (i := 2) (by kernel_rfl) (AnyS.comes rfl (fun K hK => ?_))
              go_simp
              refine (SB.out _).mono ?_
              rintro e wc1 ⟨rfl, hbc1⟩
              have hsc1 : _ ≤ wc1.heap.size := hbc1.size
              try simp at hsc1
              have o_m0_c1 : Own wc1 g 0 (.int .i64 m.1) := own_kept hbc1 o_m0_c0
              have o_m1_c1 : Own wc1 g 1 (.int .i64 m.2) := own_kept hbc1 o_m1_c0
              have o_r0_c1 : Own wc1 w.heap.size 0 (.int .i64 0) := own_kept hbc1 o_r0_c0
              have o_r1_c1 : Own wc1 w.heap.size 1 (.int .i64 0) := own_kept hbc1 o_r1_c0
              have o_H0_c1 : Own wc1 h 0 (.int .i64 0) := own_kept hbc1 o_H0_c0
              have o_H1_c1 : Own wc1 h 1 (.int .i64 0) := own_kept hbc1 o_H1_c0
              have bwc1 : Below w.heap.size w wc1 := bwc0.trans (hbc1.mono bwc0.size)
              clear hbc1
              go_wp2_with fail
              refine hK.out _ _ (StayS.mk ⟨o_m0_c1.1, o_m1_c1.1⟩) ?_
              clear hK K
              try simp only [Act.put, List.setIfInBounds_toArray, List.set_cons_zero, List.set_cons_succ]
              refine AnyS.one (i := 4) (by kernel_rfl) (AnyS.comes rfl (fun K hK => ?_))
              go_simp
              refine (I1.out _).mono ?_
              rintro e wc2 ⟨rfl, hbc2⟩
              have hsc2 : _ ≤ wc2.heap.size := hbc2.size
              try simp at hsc2
              have o_m0_c2 : Own wc2 g 0 (.int .i64 m.1) := own_kept hbc2 o_m0_c1
              have o_m1_c2 : Own wc2 g 1 (.int .i64 m.2) := own_kept hbc2 o_m1_c1
              have o_r0_c2 : Own wc2 w.heap.size 0 (.int .i64 0) := own_kept hbc2 o_r0_c1
              have o_r1_c2 : Own wc2 w.heap.size 1 (.int .i64 0) := own_kept hbc2 o_r1_c1
              have o_H0_c2 : Own wc2 h 0 (.int .i64 0) := own_kept hbc2 o_H0_c1
              have o_H1_c2 : Own wc2 h 1 (.int .i64 0) := own_kept hbc2 o_H1_c1
              have bwc2 : Below w.heap.size w wc2 := bwc1.trans (hbc2.mono bwc1.size)
              clear hbc2
              go_wp2_with fail
              refine hK.out _ _ (StayS.mk ⟨o_m0_c2.1, o_m1_c2.1⟩) ?_
              clear hK K
              try simp only [Act.put, List.setIfInBounds_toArray, List.set_cons_zero, List.set_cons_succ]
              refine AnyS.one (i := 5) (by kernel_rfl) (AnyS.comes rfl (fun K hK => ?_))
              go_simp
              refine (AD.out _).mono ?_
              rintro e wc3 ⟨rfl, hbc3⟩
              have hsc3 : _ ≤ wc3.heap.size := hbc3.size
              try simp at hsc3
              have o_m0_c3 : Own wc3 g 0 (.int .i64 m.1) := own_kept hbc3 o_m0_c2
              have o_m1_c3 : Own wc3 g 1 (.int .i64 m.2) := own_kept hbc3 o_m1_c2
              have o_r0_c3 : Own wc3 w.heap.size 0 (.int .i64 0) := own_kept hbc3 o_r0_c2
              have o_r1_c3 : Own wc3 w.heap.size 1 (.int .i64 0) := own_kept hbc3 o_r1_c2
              have o_H0_c3 : Own wc3 h 0 (.int .i64 0) := own_kept hbc3 o_H0_c2
              have o_H1_c3 : Own wc3 h 1 (.int .i64 0) := own_kept hbc3 o_H1_c2
              have bwc3 : Below w.heap.size w wc3 := bwc2.trans (hbc3.mono bwc2.size)
              clear hbc3
              go_wp2_with fail
              refine hK.out _ _ (StayS.mk ⟨o_m0_c3.1, o_m1_c3.1⟩) ?_
              clear hK K
              try simp only [Act.put, List.setIfInBounds_toArray, List.set_cons_zero, List.set_cons_succ]
              refine AnyS.one (i := 6) (by kernel_rfl) (AnyS.comes rfl (fun K hK => ?_))
              go_simp
              refine (DV.out _).mono ?_
              rintro e wc4 ⟨rfl, hbc4⟩
              have hsc4 : _ ≤ wc4.heap.size := hbc4.size
              try simp at hsc4
              have o_m0_c4 : Own wc4 g 0 (.int .i64 m.1) := own_kept hbc4 o_m0_c3
              have o_m1_c4 : Own wc4 g 1 (.int .i64 m.2) := own_kept hbc4 o_m1_c3
              have o_r0_c4 : Own wc4 w.heap.size 0 (.int .i64 0) := own_kept hbc4 o_r0_c3
              have o_r1_c4 : Own wc4 w.heap.size 1 (.int .i64 0) := own_kept hbc4 o_r1_c3
              have o_H0_c4 : Own wc4 h 0 (.int .i64 0) := own_kept hbc4 o_H0_c3
              have o_H1_c4 : Own wc4 h 1 (.int .i64 0) := own_kept hbc4 o_H1_c3
              have bwc4 : Below w.heap.size w wc4 := bwc3.trans (hbc4.mono bwc3.size)
              clear hbc4
              go_wp2_with fail
              refine hK.out _ _ (StayS.mk ⟨o_m0_c4.1, o_m1_c4.1⟩) ?_
              clear hK K
              try simp only [Act.put, List.setIfInBounds_toArray, List.set_cons_zero, List.set_cons_succ]
              have cH0 := o_H0_c4.1
              have cH1 := o_H1_c4.1
              have fH0 := o_H0_c4.2
              have fH1 := o_H1_c4.2
              refine AnyS.one (i := 8) (by kernel_rfl) (AnyS.comes rfl (fun K hK => ?_))
              go_simp
              refine hK.out _ _ (StayS.mk ⟨cell_far (by dsimp only; omega) (cell_far (by dsimp only; omega) o_m0_c4.1), cell_far (by dsimp only; omega) (cell_far (by dsimp only; omega) o_m1_c4.1)⟩) ?_
              clear hK K
              try simp only [Act.put, List.setIfInBounds_toArray, List.set_cons_zero, List.set_cons_succ]
              refine AnyS.done (by kernel_rfl) ?_ _
              go_wp2_with fail
              go_meet
              exact ⟨h, rfl, own_next (by decide) (own_put o_H0_c4), own_put (own_next (by decide) o_H1_c4), by omega, own_far (by dsimp only; omega) (own_far (by dsimp only; omega) o_r0_c4), own_far (by dsimp only; omega) (own_far (by dsimp only; omega) o_r1_c4), belB⟩
          case rest =>
            obtain ⟨hz, rfl, V0, V1, lh, S0, S1, hb'⟩ := hcut
            have hsb := hb'.size
            clear m0' m1' r0' r1' cm0 fm0 cm1 fm1 lu bu hb hsz
            obtain ⟨cv0, fv0⟩ := id V0
            obtain ⟨cv1, fv1⟩ := id V1
            have lh2 : hz < wc.heap.size := World.block_lt_of_cell? _ _ cv0
            go_wp2_with fail
            refine (SQ.out _).mono ?_
            rintro e w41 ⟨rfl, hb41⟩
            have hs41 : _ ≤ w41.heap.size := hb41.size
            try simp at hs41
            have o_z410 : Own (w41) (hz) 0 (.int .i64 z.1) := ownJ; have z410 := o_z410.1; have f_z410 := o_z410.2; have o_z411 : Own (w41) (hz) 1 (.int .i64 z.2) := ownJ; have z411 := o_z411.1; have f_z411 := o_z411.2
            have o_r410 : Own (w41) (w.heap.size) 0 (.int .i64 0) := ownJ; have r410 := o_r410.1; have f_r410 := o_r410.2; have o_r411 : Own (w41) (w.heap.size) 1 (.int .i64 0) := ownJ; have r411 := o_r411.1; have f_r411 := o_r411.2
            go_wp2_with fail
            refine (Q11.out _).mono ?_
            rintro e w42 ⟨rfl, hb42⟩
            have hs42 : _ ≤ w42.heap.size := hb42.size
            try simp at hs42
            have o_z420 : Own (w42) (hz) 0 (.int .i64 z.1) := ownJ; have z420 := o_z420.1; have f_z420 := o_z420.2; have o_z421 : Own (w42) (hz) 1 (.int .i64 z.2) := ownJ; have z421 := o_z421.1; have f_z421 := o_z421.2
            have o_r420 : Own (w42) (w.heap.size) 0 (.int .i64 0) := ownJ; have r420 := o_r420.1; have f_r420 := o_r420.2; have o_r421 : Own (w42) (w.heap.size) 1 (.int .i64 0) := ownJ; have r421 := o_r421.1; have f_r421 := o_r421.2
            have o_q420 : Own (w42) (w41.heap.size) 0 (.int .i64 q.1) := ownJ; have q420 := o_q420.1; have f_q420 := o_q420.2; have o_q421 : Own (w42) (w41.heap.size) 1 (.int .i64 q.2) := ownJ; have q421 := o_q421.1; have f_q421 := o_q421.2
            obtain ⟨g2, hg2⟩ : ∃ g, g = w41.heap.size := ⟨_, rfl⟩
            obtain ⟨v, hv'⟩ : ∃ v, v = w42.heap.size := ⟨_, rfl⟩
            have n5 : hz < g2 := by rw [hg2]; exact World.block_lt_of_cell? _ _ z410
            have ngv : g2 < v := by rw [hg2, hv']; exact World.block_lt_of_cell? _ _ q420
            have HG := Lib.hid hg2
            have HV := Lib.hid hv'
            go_wp2_with fail
            rw [← hv', ← hg2]
            clear hv' hg2
            go_loopw [8] (fun i wr => ∃ j : Nat, j ≤ 5 ∧ i = .int .i64 (9 - 2 * (j : Int)) ∧ Own wr v 0 (.int .i64 (logL q j).1) ∧ Own wr v 1 (.int .i64 (logL q j).2) ∧ Own wr g2 0 (.int .i64 q.1) ∧ Own wr g2 1 (.int .i64 q.2) ∧ Own wr hz 0 (.int .i64 z.1) ∧ Own wr hz 1 (.int .i64 z.2) ∧ Own wr w.heap.size 0 (.int .i64 0) ∧ Own wr w.heap.size 1 (.int .i64 0) ∧ Below w.heap.size w wr) (fun i _ => (intOf i + 1).toNat)
            case atStart =>
              have hg' := HG.out
              have hv' := HV.out
              subst hv'
              subst hg'
              exact ⟨0, by omega, rfl, ⟨by simp [go_sem, logL], by simp [go_sem]⟩, ⟨by simp [go_sem, logL], by simp [go_sem]⟩, own_alloc o_q420, own_alloc o_q421, own_alloc o_z420, own_alloc o_z421, own_alloc o_r420, own_alloc o_r421, belB⟩
            case round =>
              obtain ⟨j, hj, rfl, v0, v1, y0, y1, zz0, zz1, rr0, rr1, hb⟩ := hrel
              have hsz := hb.size
              have lg : v < wr.heap.size := World.block_lt_of_cell? _ _ v0.1
              obtain ⟨cv0, fv0⟩ := id v0
              obtain ⟨cv1, fv1⟩ := id v1
              obtain ⟨cy0, fy0⟩ := id y0
              obtain ⟨cy1, fy1⟩ := id y1
              clear hb41 hb42 hs41 hs42 o_z410 o_z411 o_r410 o_r411 o_z420 o_z421 o_r420 o_r421 o_q420 o_q421 z410 z411 r410 r411 z420 z421 r420 r421 q420 q421 f_z410 f_z411 f_r410 f_r411 f_z420 f_z421 f_r420 f_r421 f_q420 f_q421 V0 V1 S0 S1 hb' hsb lh2
              by_cases k9 : j < 5
              · have K0 : decide (1 ≤ 9 - 2 * (j : Int)) = true := decide_eq_true (by omega)
                have QU := Lib.hid (fun w => sQuotient_any 1 (9 - 2 * (j : Int)) (by unfold In64; omega) (by unfold In64; omega) w)
                have MU := Lib.hid (fun w => sMulI_any q (logL q j) w)
                have AD := Lib.hid (fun w => sAddI_any (quoI 1 (9 - 2 * (j : Int))) (mulI q (logL q j)) w)
                have E3 := Lib.hid (show logL q (j + 1) = addI (quoI 1 (9 - 2 * (j : Int))) (mulI q (logL q j)) from rfl)
                generalize addI (quoI 1 (9 - 2 * (j : Int))) (mulI q (logL q j)) = t at *
                generalize quoI 1 (9 - 2 * (j : Int)) = c at *
                generalize mulI q (logL q j) = mm at *
                generalize logL q j = s at *
                go_wp2_with fail
                refine AnyS.region (S := OneS 6 (fun u => u.cell? ⟨v, 0, none⟩ = some (.int .i64 s.1) ∧ u.cell? ⟨v, 1, none⟩ = some (.int .i64 s.2) ∧ u.cell? ⟨g2, 0, none⟩ = some (.int .i64 q.1) ∧ u.cell? ⟨g2, 1, none⟩ = some (.int .i64 q.2))) (by kernel_rfl) (show AnyS _ _ _ _ _ 7 _ _ _ from ?_)
                refine AnyS.take (i := 0) (v := .int .i64 (9 - 2 * (j : Int))) (T := fun _ => True) [] rfl (by kernel_rfl) (by kernel_rfl) (by kernel_rfl) (by kernel_rfl) (by kernel_rfl) (fun _ _ _ h => h) (fun L u q s => trivial) (fun L u s => OneS.less (by decide) s) (Or.inl ⟨by rfl, ?_⟩) (fun _ => ⟨cv0, cv1, cy0, cy1⟩) ?_
                · intro u hu
                  clear hu
                  go_simp
                try simp only [Act.put, List.setIfInBounds_toArray, List.set_cons_zero, List.set_cons_succ]
                refine AnyS.take (i := 2) (v := .agg #[.int .i64 q.1, .int .i64 q.2]) (T := fun u => u.cell? ⟨v, 0, none⟩ = some (.int .i64 s.1) ∧ u.cell? ⟨v, 1, none⟩ = some (.int .i64 s.2) ∧ u.cell? ⟨g2, 0, none⟩ = some (.int .i64 q.1) ∧ u.cell? ⟨g2, 1, none⟩ = some (.int .i64 q.2)) [4, 5, 6] rfl (by kernel_rfl) (by kernel_rfl) (by kernel_rfl) (by kernel_rfl) (by kernel_rfl) (fun _ _ _ h => h) (fun L u q s => s (q 6 (by simp))) (fun L u s => OneS.less (by decide) s) (Or.inl ⟨by rfl, ?_⟩) (fun _ => ⟨cv0, cv1, cy0, cy1⟩) ?_
                · intro u hu
                  obtain ⟨u0, u1, u2, u3⟩ := hu
                  go_simp
                try simp only [Act.put, List.setIfInBounds_toArray, List.set_cons_zero, List.set_cons_succ]
                refine AnyS.take (i := 3) (v := .agg #[.int .i64 s.1, .int .i64 s.2]) (T := fun u => u.cell? ⟨v, 0, none⟩ = some (.int .i64 s.1) ∧ u.cell? ⟨v, 1, none⟩ = some (.int .i64 s.2) ∧ u.cell? ⟨g2, 0, none⟩ = some (.int .i64 q.1) ∧ u.cell? ⟨g2, 1, none⟩ = some (.int .i64 q.2)) [4, 5, 6] rfl (by kernel_rfl) (by kernel_rfl) (by kernel_rfl) (by kernel_rfl) (by kernel_rfl) (fun _ _ _ h => h) (fun L u q s => s (q 6 (by simp))) (fun L u s => OneS.less (by decide) s) (Or.inl ⟨by rfl, ?_⟩) (fun _ => ⟨cv0, cv1, cy0, cy1⟩) ?_
                · intro u hu
                  obtain ⟨u0, u1, u2, u3⟩ := hu
                  go_simp
                try simp only [Act.put, List.setIfInBounds_toArray, List.set_cons_zero, List.set_cons_succ]
                refine AnyS.one (i := 1) (by kernel_rfl) (AnyS.comes rfl (fun K hK => ?_))
                go_simp
                refine (QU.out _).mono ?_
                rintro e w21 ⟨rfl, hb21⟩
                have hs21 : _ ≤ w21.heap.size := hb21.size
                try simp at hs21
                have o_h0_21 : Own w21 v 0 (.int .i64 s.1) := own_kept hb21 (own_drew v0)
                have o_h1_21 : Own w21 v 1 (.int .i64 s.2) := own_kept hb21 (own_drew v1)
                have o_h2_21 : Own w21 g2 0 (.int .i64 q.1) := own_kept hb21 (own_drew y0)
                have o_h3_21 : Own w21 g2 1 (.int .i64 q.2) := own_kept hb21 (own_drew y1)
                have o_z0_21 : Own w21 hz 0 (.int .i64 z.1) := own_kept hb21 (own_drew zz0)
                have o_z1_21 : Own w21 hz 1 (.int .i64 z.2) := own_kept hb21 (own_drew zz1)
                have o_r0_21 : Own w21 w.heap.size 0 (.int .i64 0) := own_kept hb21 (own_drew rr0)
                have o_r1_21 : Own w21 w.heap.size 1 (.int .i64 0) := own_kept hb21 (own_drew rr1)
                go_wp2_with fail
                refine hK.out _ _ (fun _ => ⟨o_h0_21.1, o_h1_21.1, o_h2_21.1, o_h3_21.1⟩) ?_
                clear hK K
                try simp only [Act.put, List.setIfInBounds_toArray, List.set_cons_zero, List.set_cons_succ]
                refine AnyS.one (i := 4) (by kernel_rfl) (AnyS.comes rfl (fun K hK => ?_))
                go_simp
                refine (MU.out _).mono ?_
                rintro e w22 ⟨rfl, hb22⟩
                have hs22 : _ ≤ w22.heap.size := hb22.size
                try simp at hs22
                have o_h0_22 : Own w22 v 0 (.int .i64 s.1) := own_kept hb22 o_h0_21
                have o_h1_22 : Own w22 v 1 (.int .i64 s.2) := own_kept hb22 o_h1_21
                have o_h2_22 : Own w22 g2 0 (.int .i64 q.1) := own_kept hb22 o_h2_21
                have o_h3_22 : Own w22 g2 1 (.int .i64 q.2) := own_kept hb22 o_h3_21
                have o_z0_22 : Own w22 hz 0 (.int .i64 z.1) := own_kept hb22 o_z0_21
                have o_z1_22 : Own w22 hz 1 (.int .i64 z.2) := own_kept hb22 o_z1_21
                have o_r0_22 : Own w22 w.heap.size 0 (.int .i64 0) := own_kept hb22 o_r0_21
                have o_r1_22 : Own w22 w.heap.size 1 (.int .i64 0) := own_kept hb22 o_r1_21
                go_wp2_with fail
                refine hK.out _ _ (fun _ => ⟨o_h0_22.1, o_h1_22.1, o_h2_22.1, o_h3_22.1⟩) ?_
                clear hK K
                try simp only [Act.put, List.setIfInBounds_toArray, List.set_cons_zero, List.set_cons_succ]
                refine AnyS.one (i := 5) (by kernel_rfl) (AnyS.comes rfl (fun K hK => ?_))
                go_simp
                refine (AD.out _).mono ?_
                rintro e w23 ⟨rfl, hb23⟩
                have hs23 : _ ≤ w23.heap.size := hb23.size
                try simp at hs23
                have o_h0_23 : Own w23 v 0 (.int .i64 s.1) := own_kept hb23 o_h0_22
                have o_h1_23 : Own w23 v 1 (.int .i64 s.2) := own_kept hb23 o_h1_22
                have o_h2_23 : Own w23 g2 0 (.int .i64 q.1) := own_kept hb23 o_h2_22
                have o_h3_23 : Own w23 g2 1 (.int .i64 q.2) := own_kept hb23 o_h3_22
                have o_z0_23 : Own w23 hz 0 (.int .i64 z.1) := own_kept hb23 o_z0_22
                have o_z1_23 : Own w23 hz 1 (.int .i64 z.2) := own_kept hb23 o_z1_22
                have o_r0_23 : Own w23 w.heap.size 0 (.int .i64 0) := own_kept hb23 o_r0_22
                have o_r1_23 : Own w23 w.heap.size 1 (.int .i64 0) := own_kept hb23 o_r1_22
                go_wp2_with fail
                refine hK.out _ _ (fun _ => ⟨o_h0_23.1, o_h1_23.1, o_h2_23.1, o_h3_23.1⟩) ?_
                clear hK K
                try simp only [Act.put, List.setIfInBounds_toArray, List.set_cons_zero, List.set_cons_succ]
                obtain ⟨ch0, fh0⟩ := id o_h0_23
                obtain ⟨ch1, fh1⟩ := id o_h1_23
                refine AnyS.one (i := 6) (by kernel_rfl) (AnyS.comes rfl (fun K hK => ?_))
                go_simp
                refine hK.out _ _ (fun h => absurd h (by decide)) ?_
                clear hK K
                try simp only [Act.put, List.setIfInBounds_toArray, List.set_cons_zero, List.set_cons_succ]
                refine AnyS.done (by kernel_rfl) ?_ _
                go_wp2
                go_roundw
                case rel => exact ⟨j + 1, by omega, by go_num, by rw [E3.out]; exact own_next (by decide) (own_put o_h0_23), by rw [E3.out]; exact own_put (own_next (by decide) o_h1_23), own_far (by dsimp only; omega) (own_far (by dsimp only; omega) o_h2_23), own_far (by dsimp only; omega) (own_far (by dsimp only; omega) o_h3_23), own_far (by dsimp only; omega) (own_far (by dsimp only; omega) o_z0_23), own_far (by dsimp only; omega) (own_far (by dsimp only; omega) o_z1_23), own_far (by dsimp only; omega) (own_far (by dsimp only; omega) o_r0_23), own_far (by dsimp only; omega) (own_far (by dsimp only; omega) o_r1_23), belB⟩
                case measure => first | (simp [intOf]; done) | (simp [intOf]; omega)
              · obtain rfl : j = 5 := by omega
                have K0 : decide (1 ≤ 9 - 2 * ((5 : Nat) : Int)) = false := by decide
                generalize logL q 5 = s at *
                have pp0 := v0
                have pp1 := v1
                go_upto_region 18 with fail
                go_cut [9] (fun s9 wx => ∃ h : Nat, s9 = .pointer (some ⟨h, 0, none⟩) ∧ Own wx h 0 (.int .i64 y2.1) ∧ Own wx h 1 (.int .i64 y2.2) ∧ w.heap.size < h ∧ Own wx w.heap.size 0 (.int .i64 0) ∧ Own wx w.heap.size 1 (.int .i64 0) ∧ Below w.heap.size w wx)
                case first =>
                  have bu := hb
                  have o_z0 := zz0
                  have o_z1 := zz1
                  have o_p0 := pp0
                  have o_p1 := pp1
                  have o_r0 := rr0
                  have o_r1 := rr1
                  refine AnyS.region (S := StayS (fun u => u.cell? ⟨hz, 0, none⟩ = some (.int .i64 z.1) ∧ u.cell? ⟨hz, 1, none⟩ = some (.int .i64 z.2) ∧ u.cell? ⟨v, 0, none⟩ = some (.int .i64 s.1) ∧ u.cell? ⟨v, 1, none⟩ = some (.int .i64 s.2))) (by kernel_rfl) (show AnyS _ _ _ _ _ 8 _ _ _ from ?_)
                  have o_z0_0 := own_drew o_z0
                  have o_z1_0 := own_drew o_z1
                  have o_p0_0 := own_drew o_p0
                  have o_p1_0 := own_drew o_p1
                  have o_r0_0 := own_drew o_r0
                  have o_r1_0 := own_drew o_r1
                  refine AnyS.take (i := 1) (v := .agg #[.int .i64 z.1, .int .i64 z.2]) (T := fun u => u.cell? ⟨hz, 0, none⟩ = some (.int .i64 z.1) ∧ u.cell? ⟨hz, 1, none⟩ = some (.int .i64 z.2) ∧ u.cell? ⟨v, 0, none⟩ = some (.int .i64 s.1) ∧ u.cell? ⟨v, 1, none⟩ = some (.int .i64 s.2)) [] rfl (by kernel_rfl) (by kernel_rfl) (by kernel_rfl) (by kernel_rfl) (by kernel_rfl) (fun _ _ _ h => h) (fun L u q s => s) (fun L u s => s) (Or.inl ⟨by rfl, ?_⟩) (StayS.mk ⟨o_z0_0.1, o_z1_0.1, o_p0_0.1, o_p1_0.1⟩) ?_
                  · intro u hu
                    obtain ⟨u0, u1, u2, u3⟩ := hu
                    go_simp
                  try simp only [Act.put, List.setIfInBounds_toArray, List.set_cons_zero, List.set_cons_succ]
                  refine AnyS.take (i := 3) (v := .agg #[.int .i64 s.1, .int .i64 s.2]) (T := fun u => u.cell? ⟨hz, 0, none⟩ = some (.int .i64 z.1) ∧ u.cell? ⟨hz, 1, none⟩ = some (.int .i64 z.2) ∧ u.cell? ⟨v, 0, none⟩ = some (.int .i64 s.1) ∧ u.cell? ⟨v, 1, none⟩ = some (.int .i64 s.2)) [] rfl (by kernel_rfl) (by kernel_rfl) (by kernel_rfl) (by kernel_rfl) (by kernel_rfl) (fun _ _ _ h => h) (fun L u q s => s) (fun L u s => s) (Or.inl ⟨by rfl, ?_⟩) (StayS.mk ⟨o_z0_0.1, o_z1_0.1, o_p0_0.1, o_p1_0.1⟩) ?_
                  · intro u hu
                    obtain ⟨u0, u1, u2, u3⟩ := hu
                    go_simp
                  try simp only [Act.put, List.setIfInBounds_toArray, List.set_cons_zero, List.set_cons_succ]
                  obtain ⟨wd, hwd⟩ : ∃ x, x = wr.drew := ⟨_, rfl⟩
                  rw [← hwd]
                  have o_z0_d : Own wd hz 0 (.int .i64 z.1) := by rw [hwd]; exact o_z0_0
                  have o_z1_d : Own wd hz 1 (.int .i64 z.2) := by rw [hwd]; exact o_z1_0
                  have o_p0_d : Own wd v 0 (.int .i64 s.1) := by rw [hwd]; exact o_p0_0
                  have o_p1_d : Own wd v 1 (.int .i64 s.2) := by rw [hwd]; exact o_p1_0
                  have o_r0_d : Own wd w.heap.size 0 (.int .i64 0) := by rw [hwd]; exact o_r0_0
                  have o_r1_d : Own wd w.heap.size 1 (.int .i64 0) := by rw [hwd]; exact o_r1_0
                  have bwd : Below w.heap.size w wd := by rw [hwd]; exact belB
                  clear hwd
                  refine AnyS.two (i := 0) (j := 6) (by kernel_rfl) (AnyS.comes rfl (fun K hK => ?_)) (AnyS.comes rfl (fun K hK => ?_))
                  · go_simp
                    refine (I2.out _).mono ?_
                    rintro e wb0 ⟨rfl, hbb0⟩
                    have hsb0 : _ ≤ wb0.heap.size := hbb0.size
                    try simp at hsb0
                    have o_z0_b0 : Own wb0 hz 0 (.int .i64 z.1) := own_kept hbb0 o_z0_d
                    have o_z1_b0 : Own wb0 hz 1 (.int .i64 z.2) := own_kept hbb0 o_z1_d
                    have o_p0_b0 : Own wb0 v 0 (.int .i64 s.1) := own_kept hbb0 o_p0_d
                    have o_p1_b0 : Own wb0 v 1 (.int .i64 s.2) := own_kept hbb0 o_p1_d
                    have o_r0_b0 : Own wb0 w.heap.size 0 (.int .i64 0) := own_kept hbb0 o_r0_d
                    have o_r1_b0 : Own wb0 w.heap.size 1 (.int .i64 0) := own_kept hbb0 o_r1_d
                    have bwb0 : Below w.heap.size w wb0 := bwd.trans (hbb0.mono bwd.size)
                    clear hbb0
                    go_wp2_with fail
                    refine hK.out _ _ (StayS.mk ⟨o_z0_b0.1, o_z1_b0.1, o_p0_b0.1, o_p1_b0.1⟩) ?_
                    clear hK K
                    try simp only [Act.put, List.setIfInBounds_toArray, List.set_cons_zero, List.set_cons_succ]
                    refine AnyS.two (i := 2) (j := 6) (by kernel_rfl) (AnyS.comes rfl (fun K hK => ?_)) (AnyS.comes rfl (fun K hK => ?_))
                    · go_simp
                      refine (MA.out _).mono ?_
                      rintro e wb1 ⟨rfl, hbb1⟩
                      have hsb1 : _ ≤ wb1.heap.size := hbb1.size
                      try simp at hsb1
                      have o_z0_b1 : Own wb1 hz 0 (.int .i64 z.1) := own_kept hbb1 o_z0_b0
                      have o_z1_b1 : Own wb1 hz 1 (.int .i64 z.2) := own_kept hbb1 o_z1_b0
                      have o_p0_b1 : Own wb1 v 0 (.int .i64 s.1) := own_kept hbb1 o_p0_b0
                      have o_p1_b1 : Own wb1 v 1 (.int .i64 s.2) := own_kept hbb1 o_p1_b0
                      have o_r0_b1 : Own wb1 w.heap.size 0 (.int .i64 0) := own_kept hbb1 o_r0_b0
                      have o_r1_b1 : Own wb1 w.heap.size 1 (.int .i64 0) := own_kept hbb1 o_r1_b0
                      have bwb1 : Below w.heap.size w wb1 := bwb0.trans (hbb1.mono bwb0.size)
                      clear hbb1
                      go_wp2_with fail
                      refine hK.out _ _ (StayS.mk ⟨o_z0_b1.1, o_z1_b1.1, o_p0_b1.1, o_p1_b1.1⟩) ?_
                      clear hK K
                      try simp only [Act.put, List.setIfInBounds_toArray, List.set_cons_zero, List.set_cons_succ]
                      refine AnyS.two (i := 4) (j := 6) (by kernel_rfl) (AnyS.comes rfl (fun K hK => ?_)) (AnyS.comes rfl (fun K hK => ?_))
                      · go_simp
                        refine (MB.out _).mono ?_
                        rintro e wb2 ⟨rfl, hbb2⟩
                        have hsb2 : _ ≤ wb2.heap.size := hbb2.size
                        try simp at hsb2
                        have o_z0_b2 : Own wb2 hz 0 (.int .i64 z.1) := own_kept hbb2 o_z0_b1
                        have o_z1_b2 : Own wb2 hz 1 (.int .i64 z.2) := own_kept hbb2 o_z1_b1
                        have o_p0_b2 : Own wb2 v 0 (.int .i64 s.1) := own_kept hbb2 o_p0_b1
                        have o_p1_b2 : Own wb2 v 1 (.int .i64 s.2) := own_kept hbb2 o_p1_b1
                        have o_r0_b2 : Own wb2 w.heap.size 0 (.int .i64 0) := own_kept hbb2 o_r0_b1
                        have o_r1_b2 : Own wb2 w.heap.size 1 (.int .i64 0) := own_kept hbb2 o_r1_b1
                        have bwb2 : Below w.heap.size w wb2 := bwb1.trans (hbb2.mono bwb1.size)
                        clear hbb2
                        go_wp2_with fail
                        refine hK.out _ _ (StayS.mk ⟨o_z0_b2.1, o_z1_b2.1, o_p0_b2.1, o_p1_b2.1⟩) ?_
                        clear hK K
                        try simp only [Act.put, List.setIfInBounds_toArray, List.set_cons_zero, List.set_cons_succ]
                        refine AnyS.two (i := 5) (j := 6) (by kernel_rfl) (AnyS.comes rfl (fun K hK => ?_)) (AnyS.comes rfl (fun K hK => ?_))
                        · go_simp
                          refine (WD.out _).mono ?_
                          rintro e wb3 ⟨rfl, hbb3⟩
                          have hsb3 : _ ≤ wb3.heap.size := hbb3.size
                          try simp at hsb3
                          have o_z0_b3 : Own wb3 hz 0 (.int .i64 z.1) := own_kept hbb3 o_z0_b2
                          have o_z1_b3 : Own wb3 hz 1 (.int .i64 z.2) := own_kept hbb3 o_z1_b2
                          have o_p0_b3 : Own wb3 v 0 (.int .i64 s.1) := own_kept hbb3 o_p0_b2
                          have o_p1_b3 : Own wb3 v 1 (.int .i64 s.2) := own_kept hbb3 o_p1_b2
                          have o_r0_b3 : Own wb3 w.heap.size 0 (.int .i64 0) := own_kept hbb3 o_r0_b2
                          have o_r1_b3 : Own wb3 w.heap.size 1 (.int .i64 0) := own_kept hbb3 o_r1_b2
                          have bwb3 : Below w.heap.size w wb3 := bwb2.trans (hbb3.mono bwb2.size)
                          clear hbb3
                          go_wp2_with fail
                          refine hK.out _ _ (StayS.mk ⟨o_z0_b3.1, o_z1_b3.1, o_p0_b3.1, o_p1_b3.1⟩) ?_
                          clear hK K
                          try simp only [Act.put, List.setIfInBounds_toArray, List.set_cons_zero, List.set_cons_succ]
                          refine AnyS.one (i := 6) (by kernel_rfl) (AnyS.comes rfl (fun K hK => ?_))
                          go_simp
                          obtain ⟨h, hh⟩ : ∃ h, h = wb3.heap.size := ⟨_, rfl⟩
                          obtain ⟨wal, ha⟩ : ∃ x, x = wb3.alloc (.cells #[.int .i64 0, .int .i64 0] 26) := ⟨_, rfl⟩
                          skip
                          rw [← ha]
                          have o_H0_al : Own wal h 0 (.int .i64 0) := by rw [ha, hh]; exact ⟨by simp [go_sem], by simp [go_sem]⟩
                          have o_H1_al : Own wal h 1 (.int .i64 0) := by rw [ha, hh]; exact ⟨by simp [go_sem], by simp [go_sem]⟩
                          have o_z0_al : Own wal hz 0 (.int .i64 z.1) := by rw [ha]; exact own_alloc o_z0_b3
                          have o_z1_al : Own wal hz 1 (.int .i64 z.2) := by rw [ha]; exact own_alloc o_z1_b3
                          have o_p0_al : Own wal v 0 (.int .i64 s.1) := by rw [ha]; exact own_alloc o_p0_b3
                          have o_p1_al : Own wal v 1 (.int .i64 s.2) := by rw [ha]; exact own_alloc o_p1_b3
                          have o_r0_al : Own wal w.heap.size 0 (.int .i64 0) := by rw [ha]; exact own_alloc o_r0_b3
                          have o_r1_al : Own wal w.heap.size 1 (.int .i64 0) := by rw [ha]; exact own_alloc o_r1_b3
                          have lh_z : hz < h := by rw [hh]; exact World.block_lt_of_cell? _ _ o_z0_b3.1
                          have lh_p : v < h := by rw [hh]; exact World.block_lt_of_cell? _ _ o_p0_b3.1
                          have lh_r : w.heap.size < h := by rw [hh]; exact World.block_lt_of_cell? _ _ o_r0_b3.1
                          have bwal : Below w.heap.size w wal := by rw [ha]; exact bwb3.alloc bwb3.size _
                          try rw [← hh]
                          clear ha hh
                          refine hK.out _ _ (StayS.mk ⟨o_z0_al.1, o_z1_al.1, o_p0_al.1, o_p1_al.1⟩) ?_
                          clear hK K
                          try simp only [Act.put, List.setIfInBounds_toArray, List.set_cons_zero, List.set_cons_succ]
                          have cH0 := o_H0_al.1
                          have cH1 := o_H1_al.1
                          have fH0 := o_H0_al.2
                          have fH1 := o_H1_al.2
                          refine AnyS.one (i := 7) (by kernel_rfl) (AnyS.comes rfl (fun K hK => ?_))
                          go_simp
                          refine hK.out _ _ (StayS.mk ⟨cell_far (by dsimp only; omega) (cell_far (by dsimp only; omega) o_z0_al.1), cell_far (by dsimp only; omega) (cell_far (by dsimp only; omega) o_z1_al.1), cell_far (by dsimp only; omega) (cell_far (by dsimp only; omega) o_p0_al.1), cell_far (by dsimp only; omega) (cell_far (by dsimp only; omega) o_p1_al.1)⟩) ?_
                          clear hK K
                          try simp only [Act.put, List.setIfInBounds_toArray, List.set_cons_zero, List.set_cons_succ]
                          refine AnyS.done (by kernel_rfl) ?_ _
                          go_wp2_with fail
                          go_meet
                          exact ⟨h, rfl, own_next (by decide) (own_put o_H0_al), own_put (own_next (by decide) o_H1_al), by omega, own_far (by dsimp only; omega) (own_far (by dsimp only; omega) o_r0_al), own_far (by dsimp only; omega) (own_far (by dsimp only; omega) o_r1_al), belB⟩
                        · go_simp
                          obtain ⟨h, hh⟩ : ∃ h, h = wb2.heap.size := ⟨_, rfl⟩
                          obtain ⟨wal, ha⟩ : ∃ x, x = wb2.alloc (.cells #[.int .i64 0, .int .i64 0] 26) := ⟨_, rfl⟩
                          skip
                          rw [← ha]
                          have o_H0_al : Own wal h 0 (.int .i64 0) := by rw [ha, hh]; exact ⟨by simp [go_sem], by simp [go_sem]⟩
                          have o_H1_al : Own wal h 1 (.int .i64 0) := by rw [ha, hh]; exact ⟨by simp [go_sem], by simp [go_sem]⟩
                          have o_z0_al : Own wal hz 0 (.int .i64 z.1) := by rw [ha]; exact own_alloc o_z0_b2
                          have o_z1_al : Own wal hz 1 (.int .i64 z.2) := by rw [ha]; exact own_alloc o_z1_b2
                          have o_p0_al : Own wal v 0 (.int .i64 s.1) := by rw [ha]; exact own_alloc o_p0_b2
                          have o_p1_al : Own wal v 1 (.int .i64 s.2) := by rw [ha]; exact own_alloc o_p1_b2
                          have o_r0_al : Own wal w.heap.size 0 (.int .i64 0) := by rw [ha]; exact own_alloc o_r0_b2
                          have o_r1_al : Own wal w.heap.size 1 (.int .i64 0) := by rw [ha]; exact own_alloc o_r1_b2
                          have lh_z : hz < h := by rw [hh]; exact World.block_lt_of_cell? _ _ o_z0_b2.1
                          have lh_p : v < h := by rw [hh]; exact World.block_lt_of_cell? _ _ o_p0_b2.1
                          have lh_r : w.heap.size < h := by rw [hh]; exact World.block_lt_of_cell? _ _ o_r0_b2.1
                          have bwal : Below w.heap.size w wal := by rw [ha]; exact bwb2.alloc bwb2.size _
                          try rw [← hh]
                          clear ha hh
                          refine hK.out _ _ (StayS.mk ⟨o_z0_al.1, o_z1_al.1, o_p0_al.1, o_p1_al.1⟩) ?_
                          clear hK K
                          try simp only [Act.put, List.setIfInBounds_toArray, List.set_cons_zero, List.set_cons_succ]
                          refine AnyS.one (i := 5) (by kernel_rfl) (AnyS.comes rfl (fun K hK => ?_))
                          go_simp
                          refine (WD.out _).mono ?_
                          rintro e wc3 ⟨rfl, hbc3⟩
                          have hsc3 : _ ≤ wc3.heap.size := hbc3.size
                          try simp at hsc3
                          have o_z0_c3 : Own wc3 hz 0 (.int .i64 z.1) := own_kept hbc3 o_z0_al
                          have o_z1_c3 : Own wc3 hz 1 (.int .i64 z.2) := own_kept hbc3 o_z1_al
                          have o_p0_c3 : Own wc3 v 0 (.int .i64 s.1) := own_kept hbc3 o_p0_al
                          have o_p1_c3 : Own wc3 v 1 (.int .i64 s.2) := own_kept hbc3 o_p1_al
                          have o_r0_c3 : Own wc3 w.heap.size 0 (.int .i64 0) := own_kept hbc3 o_r0_al
                          have o_r1_c3 : Own wc3 w.heap.size 1 (.int .i64 0) := own_kept hbc3 o_r1_al
                          have o_H0_c3 : Own wc3 h 0 (.int .i64 0) := own_kept hbc3 o_H0_al
                          have o_H1_c3 : Own wc3 h 1 (.int .i64 0) := own_kept hbc3 o_H1_al
                          have bwc3 : Below w.heap.size w wc3 := bwal.trans (hbc3.mono bwal.size)
                          clear hbc3
                          go_wp2_with fail
                          refine hK.out _ _ (StayS.mk ⟨o_z0_c3.1, o_z1_c3.1, o_p0_c3.1, o_p1_c3.1⟩) ?_
                          clear hK K
                          try simp only [Act.put, List.setIfInBounds_toArray, List.set_cons_zero, List.set_cons_succ]
                          have cH0 := o_H0_c3.1
                          have cH1 := o_H1_c3.1
                          have fH0 := o_H0_c3.2
                          have fH1 := o_H1_c3.2
                          refine AnyS.one (i := 7) (by kernel_rfl) (AnyS.comes rfl (fun K hK => ?_))
                          go_simp
                          refine hK.out _ _ (StayS.mk ⟨cell_far (by dsimp only; omega) (cell_far (by dsimp only; omega) o_z0_c3.1), cell_far (by dsimp only; omega) (cell_far (by dsimp only; omega) o_z1_c3.1), cell_far (by dsimp only; omega) (cell_far (by dsimp only; omega) o_p0_c3.1), cell_far (by dsimp only; omega) (cell_far (by dsimp only; omega) o_p1_c3.1)⟩) ?_
                          clear hK K
                          try simp only [Act.put, List.setIfInBounds_toArray, List.set_cons_zero, List.set_cons_succ]
                          refine AnyS.done (by kernel_rfl) ?_ _
                          go_wp2_with fail
                          go_meet
                          exact ⟨h, rfl, own_next (by decide) (own_put o_H0_c3), own_put (own_next (by decide) o_H1_c3), by omega, own_far (by dsimp only; omega) (own_far (by dsimp only; omega) o_r0_c3), own_far (by dsimp only; omega) (own_far (by dsimp only; omega) o_r1_c3), belB⟩
                      · go_simp
                        obtain ⟨h, hh⟩ : ∃ h, h = wb1.heap.size := ⟨_, rfl⟩
                        obtain ⟨wal, ha⟩ : ∃ x, x = wb1.alloc (.cells #[.int .i64 0, .int .i64 0] 26) := ⟨_, rfl⟩
                        skip
                        rw [← ha]
                        have o_H0_al : Own wal h 0 (.int .i64 0) := by rw [ha, hh]; exact ⟨by simp [go_sem], by simp [go_sem]⟩
                        have o_H1_al : Own wal h 1 (.int .i64 0) := by rw [ha, hh]; exact ⟨by simp [go_sem], by simp [go_sem]⟩
                        have o_z0_al : Own wal hz 0 (.int .i64 z.1) := by rw [ha]; exact own_alloc o_z0_b1
                        have o_z1_al : Own wal hz 1 (.int .i64 z.2) := by rw [ha]; exact own_alloc o_z1_b1
                        have o_p0_al : Own wal v 0 (.int .i64 s.1) := by rw [ha]; exact own_alloc o_p0_b1
                        have o_p1_al : Own wal v 1 (.int .i64 s.2) := by rw [ha]; exact own_alloc o_p1_b1
                        have o_r0_al : Own wal w.heap.size 0 (.int .i64 0) := by rw [ha]; exact own_alloc o_r0_b1
                        have o_r1_al : Own wal w.heap.size 1 (.int .i64 0) := by rw [ha]; exact own_alloc o_r1_b1
                        have lh_z : hz < h := by rw [hh]; exact World.block_lt_of_cell? _ _ o_z0_b1.1
                        have lh_p : v < h := by rw [hh]; exact World.block_lt_of_cell? _ _ o_p0_b1.1
                        have lh_r : w.heap.size < h := by rw [hh]; exact World.block_lt_of_cell? _ _ o_r0_b1.1
                        have bwal : Below w.heap.size w wal := by rw [ha]; exact bwb1.alloc bwb1.size _
                        try rw [← hh]
                        clear ha hh
                        refine hK.out _ _ (StayS.mk ⟨o_z0_al.1, o_z1_al.1, o_p0_al.1, o_p1_al.1⟩) ?_
                        clear hK K
                        try simp only [Act.put, List.setIfInBounds_toArray, List.set_cons_zero, List.set_cons_succ]
                        refine AnyS.one (i := 4) (by kernel_rfl) (AnyS.comes rfl (fun K hK => ?_))
                        go_simp
                        refine (MB.out _).mono ?_
                        rintro e wc2 ⟨rfl, hbc2⟩
                        have hsc2 : _ ≤ wc2.heap.size := hbc2.size
                        try simp at hsc2
                        have o_z0_c2 : Own wc2 hz 0 (.int .i64 z.1) := own_kept hbc2 o_z0_al
                        have o_z1_c2 : Own wc2 hz 1 (.int .i64 z.2) := own_kept hbc2 o_z1_al
                        have o_p0_c2 : Own wc2 v 0 (.int .i64 s.1) := own_kept hbc2 o_p0_al
                        have o_p1_c2 : Own wc2 v 1 (.int .i64 s.2) := own_kept hbc2 o_p1_al
                        have o_r0_c2 : Own wc2 w.heap.size 0 (.int .i64 0) := own_kept hbc2 o_r0_al
                        have o_r1_c2 : Own wc2 w.heap.size 1 (.int .i64 0) := own_kept hbc2 o_r1_al
                        have o_H0_c2 : Own wc2 h 0 (.int .i64 0) := own_kept hbc2 o_H0_al
                        have o_H1_c2 : Own wc2 h 1 (.int .i64 0) := own_kept hbc2 o_H1_al
                        have bwc2 : Below w.heap.size w wc2 := bwal.trans (hbc2.mono bwal.size)
                        clear hbc2
                        go_wp2_with fail
                        refine hK.out _ _ (StayS.mk ⟨o_z0_c2.1, o_z1_c2.1, o_p0_c2.1, o_p1_c2.1⟩) ?_
                        clear hK K
                        try simp only [Act.put, List.setIfInBounds_toArray, List.set_cons_zero, List.set_cons_succ]
                        refine AnyS.one (i := 5) (by kernel_rfl) (AnyS.comes rfl (fun K hK => ?_))
                        go_simp
                        refine (WD.out _).mono ?_
                        rintro e wc3 ⟨rfl, hbc3⟩
                        have hsc3 : _ ≤ wc3.heap.size := hbc3.size
                        try simp at hsc3
                        have o_z0_c3 : Own wc3 hz 0 (.int .i64 z.1) := own_kept hbc3 o_z0_c2
                        have o_z1_c3 : Own wc3 hz 1 (.int .i64 z.2) := own_kept hbc3 o_z1_c2
                        have o_p0_c3 : Own wc3 v 0 (.int .i64 s.1) := own_kept hbc3 o_p0_c2
                        have o_p1_c3 : Own wc3 v 1 (.int .i64 s.2) := own_kept hbc3 o_p1_c2
                        have o_r0_c3 : Own wc3 w.heap.size 0 (.int .i64 0) := own_kept hbc3 o_r0_c2
                        have o_r1_c3 : Own wc3 w.heap.size 1 (.int .i64 0) := own_kept hbc3 o_r1_c2
                        have o_H0_c3 : Own wc3 h 0 (.int .i64 0) := own_kept hbc3 o_H0_c2
                        have o_H1_c3 : Own wc3 h 1 (.int .i64 0) := own_kept hbc3 o_H1_c2
                        have bwc3 : Below w.heap.size w wc3 := bwc2.trans (hbc3.mono bwc2.size)
                        clear hbc3
                        go_wp2_with fail
                        refine hK.out _ _ (StayS.mk ⟨o_z0_c3.1, o_z1_c3.1, o_p0_c3.1, o_p1_c3.1⟩) ?_
                        clear hK K
                        try simp only [Act.put, List.setIfInBounds_toArray, List.set_cons_zero, List.set_cons_succ]
                        have cH0 := o_H0_c3.1
                        have cH1 := o_H1_c3.1
                        have fH0 := o_H0_c3.2
                        have fH1 := o_H1_c3.2
                        refine AnyS.one (i := 7) (by kernel_rfl) (AnyS.comes rfl (fun K hK => ?_))
                        go_simp
                        refine hK.out _ _ (StayS.mk ⟨cell_far (by dsimp only; omega) (cell_far (by dsimp only; omega) o_z0_c3.1), cell_far (by dsimp only; omega) (cell_far (by dsimp only; omega) o_z1_c3.1), cell_far (by dsimp only; omega) (cell_far (by dsimp only; omega) o_p0_c3.1), cell_far (by dsimp only; omega) (cell_far (by dsimp only; omega) o_p1_c3.1)⟩) ?_
                        clear hK K
                        try simp only [Act.put, List.setIfInBounds_toArray, List.set_cons_zero, List.set_cons_succ]
                        refine AnyS.done (by kernel_rfl) ?_ _
                        go_wp2_with fail
                        go_meet
                        exact ⟨h, rfl, own_next (by decide) (own_put o_H0_c3), own_put (own_next (by decide) o_H1_c3), by omega, own_far (by dsimp only; omega) (own_far (by dsimp only; omega) o_r0_c3), own_far (by dsimp only; omega) (own_far (by dsimp only; omega) o_r1_c3), belB⟩
                    · go_simp
                      obtain ⟨h, hh⟩ : ∃ h, h = wb0.heap.size := ⟨_, rfl⟩
                      obtain ⟨wal, ha⟩ : ∃ x, x = wb0.alloc (.cells #[.int .i64 0, .int .i64 0] 26) := ⟨_, rfl⟩
                      skip
                      rw [← ha]
                      have o_H0_al : Own wal h 0 (.int .i64 0) := by rw [ha, hh]; exact ⟨by simp [go_sem], by simp [go_sem]⟩
                      have o_H1_al : Own wal h 1 (.int .i64 0) := by rw [ha, hh]; exact ⟨by simp [go_sem], by simp [go_sem]⟩
                      have o_z0_al : Own wal hz 0 (.int .i64 z.1) := by rw [ha]; exact own_alloc o_z0_b0
                      have o_z1_al : Own wal hz 1 (.int .i64 z.2) := by rw [ha]; exact own_alloc o_z1_b0
                      have o_p0_al : Own wal v 0 (.int .i64 s.1) := by rw [ha]; exact own_alloc o_p0_b0
                      have o_p1_al : Own wal v 1 (.int .i64 s.2) := by rw [ha]; exact own_alloc o_p1_b0
                      have o_r0_al : Own wal w.heap.size 0 (.int .i64 0) := by rw [ha]; exact own_alloc o_r0_b0
                      have o_r1_al : Own wal w.heap.size 1 (.int .i64 0) := by rw [ha]; exact own_alloc o_r1_b0
                      have lh_z : hz < h := by rw [hh]; exact World.block_lt_of_cell? _ _ o_z0_b0.1
                      have lh_p : v < h := by rw [hh]; exact World.block_lt_of_cell? _ _ o_p0_b0.1
                      have lh_r : w.heap.size < h := by rw [hh]; exact World.block_lt_of_cell? _ _ o_r0_b0.1
                      have bwal : Below w.heap.size w wal := by rw [ha]; exact bwb0.alloc bwb0.size _
                      try rw [← hh]
                      clear ha hh
                      refine hK.out _ _ (StayS.mk ⟨o_z0_al.1, o_z1_al.1, o_p0_al.1, o_p1_al.1⟩) ?_
                      clear hK K
                      try simp only [Act.put, List.setIfInBounds_toArray, List.set_cons_zero, List.set_cons_succ]
                      refine AnyS.one (i := 2) (by kernel_rfl) (AnyS.comes rfl (fun K hK => ?_))
                      go_simp
                      refine (MA.out _).mono ?_
                      rintro e wc1 ⟨rfl, hbc1⟩
                      have hsc1 : _ ≤ wc1.heap.size := hbc1.size
                      try simp at hsc1
                      have o_z0_c1 : Own wc1 hz 0 (.int .i64 z.1) := own_kept hbc1 o_z0_al
                      have o_z1_c1 : Own wc1 hz 1 (.int .i64 z.2) := own_kept hbc1 o_z1_al
                      have o_p0_c1 : Own wc1 v 0 (.int .i64 s.1) := own_kept hbc1 o_p0_al
                      have o_p1_c1 : Own wc1 v 1 (.int .i64 s.2) := own_kept hbc1 o_p1_al
                      have o_r0_c1 : Own wc1 w.heap.size 0 (.int .i64 0) := own_kept hbc1 o_r0_al
                      have o_r1_c1 : Own wc1 w.heap.size 1 (.int .i64 0) := own_kept hbc1 o_r1_al
                      have o_H0_c1 : Own wc1 h 0 (.int .i64 0) := own_kept hbc1 o_H0_al
                      have o_H1_c1 : Own wc1 h 1 (.int .i64 0) := own_kept hbc1 o_H1_al
                      have bwc1 : Below w.heap.size w wc1 := bwal.trans (hbc1.mono bwal.size)
                      clear hbc1
                      go_wp2_with fail
                      refine hK.out _ _ (StayS.mk ⟨o_z0_c1.1, o_z1_c1.1, o_p0_c1.1, o_p1_c1.1⟩) ?_
                      clear hK K
                      try simp only [Act.put, List.setIfInBounds_toArray, List.set_cons_zero, List.set_cons_succ]
                      refine AnyS.one (i := 4) (by kernel_rfl) (AnyS.comes rfl (fun K hK => ?_))
                      go_simp
                      refine (MB.out _).mono ?_
                      rintro e wc2 ⟨rfl, hbc2⟩
                      have hsc2 : _ ≤ wc2.heap.size := hbc2.size
                      try simp at hsc2
                      have o_z0_c2 : Own wc2 hz 0 (.int .i64 z.1) := own_kept hbc2 o_z0_c1
                      have o_z1_c2 : Own wc2 hz 1 (.int .i64 z.2) := own_kept hbc2 o_z1_c1
                      have o_p0_c2 : Own wc2 v 0 (.int .i64 s.1) := own_kept hbc2 o_p0_c1
                      have o_p1_c2 : Own wc2 v 1 (.int .i64 s.2) := own_kept hbc2 o_p1_c1
                      have o_r0_c2 : Own wc2 w.heap.size 0 (.int .i64 0) := own_kept hbc2 o_r0_c1
                      have o_r1_c2 : Own wc2 w.heap.size 1 (.int .i64 0) := own_kept hbc2 o_r1_c1
                      have o_H0_c2 : Own wc2 h 0 (.int .i64 0) := own_kept hbc2 o_H0_c1
                      have o_H1_c2 : Own wc2 h 1 (.int .i64 0) := own_kept hbc2 o_H1_c1
                      have bwc2 : Below w.heap.size w wc2 := bwc1.trans (hbc2.mono bwc1.size)
                      clear hbc2
                      go_wp2_with fail
                      refine hK.out _ _ (StayS.mk ⟨o_z0_c2.1, o_z1_c2.1, o_p0_c2.1, o_p1_c2.1⟩) ?_
                      clear hK K
                      try simp only [Act.put, List.setIfInBounds_toArray, List.set_cons_zero, List.set_cons_succ]
                      refine AnyS.one (i := 5) (by kernel_rfl) (AnyS.comes rfl (fun K hK => ?_))
                      go_simp
                      refine (WD.out _).mono ?_
                      rintro e wc3 ⟨rfl, hbc3⟩
                      have hsc3 : _ ≤ wc3.heap.size := hbc3.size
                      try simp at hsc3
                      have o_z0_c3 : Own wc3 hz 0 (.int .i64 z.1) := own_kept hbc3 o_z0_c2
                      have o_z1_c3 : Own wc3 hz 1 (.int .i64 z.2) := own_kept hbc3 o_z1_c2
                      have o_p0_c3 : Own wc3 v 0 (.int .i64 s.1) := own_kept hbc3 o_p0_c2
                      have o_p1_c3 : Own wc3 v 1 (.int .i64 s.2) := own_kept hbc3 o_p1_c2
                      have o_r0_c3 : Own wc3 w.heap.size 0 (.int .i64 0) := own_kept hbc3 o_r0_c2
                      have o_r1_c3 : Own wc3 w.heap.size 1 (.int .i64 0) := own_kept hbc3 o_r1_c2
                      have o_H0_c3 : Own wc3 h 0 (.int .i64 0) := own_kept hbc3 o_H0_c2
                      have o_H1_c3 : Own wc3 h 1 (.int .i64 0) := own_kept hbc3 o_H1_c2
                      have bwc3 : Below w.heap.size w wc3 := bwc2.trans (hbc3.mono bwc2.size)
                      clear hbc3
                      go_wp2_with fail
                      refine hK.out _ _ (StayS.mk ⟨o_z0_c3.1, o_z1_c3.1, o_p0_c3.1, o_p1_c3.1⟩) ?_
                      clear hK K
                      try simp only [Act.put, List.setIfInBounds_toArray, List.set_cons_zero, List.set_cons_succ]
                      have cH0 := o_H0_c3.1
                      have cH1 := o_H1_c3.1
                      have fH0 := o_H0_c3.2
                      have fH1 := o_H1_c3.2
                      refine AnyS.one (i := 7) (by kernel_rfl) (AnyS.comes rfl (fun K hK => ?_))
                      go_simp
                      refine hK.out _ _ (StayS.mk ⟨cell_far (by dsimp only; omega) (cell_far (by dsimp only; omega) o_z0_c3.1), cell_far (by dsimp only; omega) (cell_far (by dsimp only; omega) o_z1_c3.1), cell_far (by dsimp only; omega) (cell_far (by dsimp only; omega) o_p0_c3.1), cell_far (by dsimp only; omega) (cell_far (by dsimp only; omega) o_p1_c3.1)⟩) ?_
                      clear hK K
                      try simp only [Act.put, List.setIfInBounds_toArray, List.set_cons_zero, List.set_cons_succ]
                      refine AnyS.done (by kernel_rfl) ?_ _
                      go_wp2_with fail
                      go_meet
                      exact ⟨h, rfl, own_next (by decide) (own_put o_H0_c3), own_put (own_next (by decide) o_H1_c3), by omega, own_far (by dsimp only; omega) (own_far (by dsimp only; omega) o_r0_c3), own_far (by dsimp only; omega) (own_far (by dsimp only; omega) o_r1_c3), belB⟩
                  · go_simp
                    obtain ⟨h, hh⟩ : ∃ h, h = wd.heap.size := ⟨_, rfl⟩
                    obtain ⟨wal, ha⟩ : ∃ x, x = wd.alloc (.cells #[.int .i64 0, .int .i64 0] 26) := ⟨_, rfl⟩
                    skip
                    rw [← ha]
                    have o_H0_al : Own wal h 0 (.int .i64 0) := by rw [ha, hh]; exact ⟨by simp [go_sem], by simp [go_sem]⟩
                    have o_H1_al : Own wal h 1 (.int .i64 0) := by rw [ha, hh]; exact ⟨by simp [go_sem], by simp [go_sem]⟩
                    have o_z0_al : Own wal hz 0 (.int .i64 z.1) := by rw [ha]; exact own_alloc o_z0_d
                    have o_z1_al : Own wal hz 1 (.int .i64 z.2) := by rw [ha]; exact own_alloc o_z1_d
                    have o_p0_al : Own wal v 0 (.int .i64 s.1) := by rw [ha]; exact own_alloc o_p0_d
                    have o_p1_al : Own wal v 1 (.int .i64 s.2) := by rw [ha]; exact own_alloc o_p1_d
                    have o_r0_al : Own wal w.heap.size 0 (.int .i64 0) := by rw [ha]; exact own_alloc o_r0_d
                    have o_r1_al : Own wal w.heap.size 1 (.int .i64 0) := by rw [ha]; exact own_alloc o_r1_d
                    have lh_z : hz < h := by rw [hh]; exact World.block_lt_of_cell? _ _ o_z0_d.1
                    have lh_p : v < h := by rw [hh]; exact World.block_lt_of_cell? _ _ o_p0_d.1
                    have lh_r : w.heap.size < h := by rw [hh]; exact World.block_lt_of_cell? _ _ o_r0_d.1
                    have bwal : Below w.heap.size w wal := by rw [ha]; exact bwd.alloc bwd.size _
                    try rw [← hh]
                    clear ha hh
                    refine hK.out _ _ (StayS.mk ⟨o_z0_al.1, o_z1_al.1, o_p0_al.1, o_p1_al.1⟩) ?_
                    clear hK K
                    try simp only [Act.put, List.setIfInBounds_toArray, List.set_cons_zero, List.set_cons_succ]
                    refine AnyS.one (i := 0) (by kernel_rfl) (AnyS.comes rfl (fun K hK => ?_))
                    go_simp
                    refine (I2.out _).mono ?_
                    rintro e wc0 ⟨rfl, hbc0⟩
                    have hsc0 : _ ≤ wc0.heap.size := hbc0.size
                    try simp at hsc0
                    have o_z0_c0 : Own wc0 hz 0 (.int .i64 z.1) := own_kept hbc0 o_z0_al
                    have o_z1_c0 : Own wc0 hz 1 (.int .i64 z.2) := own_kept hbc0 o_z1_al
                    have o_p0_c0 : Own wc0 v 0 (.int .i64 s.1) := own_kept hbc0 o_p0_al
                    have o_p1_c0 : Own wc0 v 1 (.int .i64 s.2) := own_kept hbc0 o_p1_al
                    have o_r0_c0 : Own wc0 w.heap.size 0 (.int .i64 0) := own_kept hbc0 o_r0_al
                    have o_r1_c0 : Own wc0 w.heap.size 1 (.int .i64 0) := own_kept hbc0 o_r1_al
                    have o_H0_c0 : Own wc0 h 0 (.int .i64 0) := own_kept hbc0 o_H0_al
                    have o_H1_c0 : Own wc0 h 1 (.int .i64 0) := own_kept hbc0 o_H1_al
                    have bwc0 : Below w.heap.size w wc0 := bwal.trans (hbc0.mono bwal.size)
                    clear hbc0
                    go_wp2_with fail
                    refine hK.out _ _ (StayS.mk ⟨o_z0_c0.1, o_z1_c0.1, o_p0_c0.1, o_p1_c0.1⟩) ?_
                    clear hK K
                    try simp only [Act.put, List.setIfInBounds_toArray, List.set_cons_zero, List.set_cons_succ]
                    refine AnyS.one (i := 2) (by kernel_rfl) (AnyS.comes rfl (fun K hK => ?_))
                    go_simp
                    refine (MA.out _).mono ?_
                    rintro e wc1 ⟨rfl, hbc1⟩
                    have hsc1 : _ ≤ wc1.heap.size := hbc1.size
                    try simp at hsc1
                    have o_z0_c1 : Own wc1 hz 0 (.int .i64 z.1) := own_kept hbc1 o_z0_c0
                    have o_z1_c1 : Own wc1 hz 1 (.int .i64 z.2) := own_kept hbc1 o_z1_c0
                    have o_p0_c1 : Own wc1 v 0 (.int .i64 s.1) := own_kept hbc1 o_p0_c0
                    have o_p1_c1 : Own wc1 v 1 (.int .i64 s.2) := own_kept hbc1 o_p1_c0
                    have o_r0_c1 : Own wc1 w.heap.size 0 (.int .i64 0) := own_kept hbc1 o_r0_c0
                    have o_r1_c1 : Own wc1 w.heap.size 1 (.int .i64 0) := own_kept hbc1 o_r1_c0
                    have o_H0_c1 : Own wc1 h 0 (.int .i64 0) := own_kept hbc1 o_H0_c0
                    have o_H1_c1 : Own wc1 h 1 (.int .i64 0) := own_kept hbc1 o_H1_c0
                    have bwc1 : Below w.heap.size w wc1 := bwc0.trans (hbc1.mono bwc0.size)
                    clear hbc1
                    go_wp2_with fail
                    refine hK.out _ _ (StayS.mk ⟨o_z0_c1.1, o_z1_c1.1, o_p0_c1.1, o_p1_c1.1⟩) ?_
                    clear hK K
                    try simp only [Act.put, List.setIfInBounds_toArray, List.set_cons_zero, List.set_cons_succ]
                    refine AnyS.one (i := 4) (by kernel_rfl) (AnyS.comes rfl (fun K hK => ?_))
                    go_simp
                    refine (MB.out _).mono ?_
                    rintro e wc2 ⟨rfl, hbc2⟩
                    have hsc2 : _ ≤ wc2.heap.size := hbc2.size
                    try simp at hsc2
                    have o_z0_c2 : Own wc2 hz 0 (.int .i64 z.1) := own_kept hbc2 o_z0_c1
                    have o_z1_c2 : Own wc2 hz 1 (.int .i64 z.2) := own_kept hbc2 o_z1_c1
                    have o_p0_c2 : Own wc2 v 0 (.int .i64 s.1) := own_kept hbc2 o_p0_c1
                    have o_p1_c2 : Own wc2 v 1 (.int .i64 s.2) := own_kept hbc2 o_p1_c1
                    have o_r0_c2 : Own wc2 w.heap.size 0 (.int .i64 0) := own_kept hbc2 o_r0_c1
                    have o_r1_c2 : Own wc2 w.heap.size 1 (.int .i64 0) := own_kept hbc2 o_r1_c1
                    have o_H0_c2 : Own wc2 h 0 (.int .i64 0) := own_kept hbc2 o_H0_c1
                    have o_H1_c2 : Own wc2 h 1 (.int .i64 0) := own_kept hbc2 o_H1_c1
                    have bwc2 : Below w.heap.size w wc2 := bwc1.trans (hbc2.mono bwc1.size)
                    clear hbc2
                    go_wp2_with fail
                    refine hK.out _ _ (StayS.mk ⟨o_z0_c2.1, o_z1_c2.1, o_p0_c2.1, o_p1_c2.1⟩) ?_
                    clear hK K
                    try simp only [Act.put, List.setIfInBounds_toArray, List.set_cons_zero, List.set_cons_succ]
                    refine AnyS.one (i := 5) (by kernel_rfl) (AnyS.comes rfl (fun K hK => ?_))
                    go_simp
                    refine (WD.out _).mono ?_
                    rintro e wc3 ⟨rfl, hbc3⟩
                    have hsc3 : _ ≤ wc3.heap.size := hbc3.size
                    try simp at hsc3
                    have o_z0_c3 : Own wc3 hz 0 (.int .i64 z.1) := own_kept hbc3 o_z0_c2
                    have o_z1_c3 : Own wc3 hz 1 (.int .i64 z.2) := own_kept hbc3 o_z1_c2
                    have o_p0_c3 : Own wc3 v 0 (.int .i64 s.1) := own_kept hbc3 o_p0_c2
                    have o_p1_c3 : Own wc3 v 1 (.int .i64 s.2) := own_kept hbc3 o_p1_c2
                    have o_r0_c3 : Own wc3 w.heap.size 0 (.int .i64 0) := own_kept hbc3 o_r0_c2
                    have o_r1_c3 : Own wc3 w.heap.size 1 (.int .i64 0) := own_kept hbc3 o_r1_c2
                    have o_H0_c3 : Own wc3 h 0 (.int .i64 0) := own_kept hbc3 o_H0_c2
                    have o_H1_c3 : Own wc3 h 1 (.int .i64 0) := own_kept hbc3 o_H1_c2
                    have bwc3 : Below w.heap.size w wc3 := bwc2.trans (hbc3.mono bwc2.size)
                    clear hbc3
                    go_wp2_with fail
                    refine hK.out _ _ (StayS.mk ⟨o_z0_c3.1, o_z1_c3.1, o_p0_c3.1, o_p1_c3.1⟩) ?_
                    clear hK K
                    try simp only [Act.put, List.setIfInBounds_toArray, List.set_cons_zero, List.set_cons_succ]
                    have cH0 := o_H0_c3.1
                    have cH1 := o_H1_c3.1
                    have fH0 := o_H0_c3.2
                    have fH1 := o_H1_c3.2
                    refine AnyS.one (i := 7) (by kernel_rfl) (AnyS.comes rfl (fun K hK => ?_))
                    go_simp
                    refine hK.out _ _ (StayS.mk ⟨cell_far (by dsimp only; omega) (cell_far (by dsimp only; omega) o_z0_c3.1), cell_far (by dsimp only; omega) (cell_far (by dsimp only; omega) o_z1_c3.1), cell_far (by dsimp only; omega) (cell_far (by dsimp only; omega) o_p0_c3.1), cell_far (by dsimp only; omega) (cell_far (by dsimp only; omega) o_p1_c3.1)⟩) ?_
                    clear hK K
                    try simp only [Act.put, List.setIfInBounds_toArray, List.set_cons_zero, List.set_cons_succ]
                    refine AnyS.done (by kernel_rfl) ?_ _
                    go_wp2_with fail
                    go_meet
                    exact ⟨h, rfl, own_next (by decide) (own_put o_H0_c3), own_put (own_next (by decide) o_H1_c3), by omega, own_far (by dsimp only; omega) (own_far (by dsimp only; omega) o_r0_c3), own_far (by dsimp only; omega) (own_far (by dsimp only; omega) o_r1_c3), belB⟩
                case rest =>
                  obtain ⟨h, rfl, V0, V1, lh', S0, S1, hb'⟩ := hcut
                  have hsb := hb'.size
                  obtain ⟨cv0, fv0⟩ := id V0
                  obtain ⟨cv1, fv1⟩ := id V1
                  have lh2 : h < wc.heap.size := World.block_lt_of_cell? _ _ cv0
                  have lh3 : w.heap.size < wc.heap.size := World.block_lt_of_cell? _ _ S0.1
                  go_wp2_with fail
                  have z0 := pslot_of (w := wc) (a := ⟨w.heap.size, 0, none⟩) (v := .int .i64 0) S0.1 S0.2
                  have z1 := pslot_of (w := wc) (a := ⟨w.heap.size, 1, none⟩) (v := .int .i64 0) S1.1 S1.2
                  obtain ⟨hlt2, hlt3, hlt4, hlt5, hlt6, hlt7, hlt8, hlt9, hlt10, hlt11⟩ := below_add; go_region_held3 (fun w' => w'.cell? ⟨h, 0, none⟩ = some (.int .i64 y2.1) ∧ w'.cell? ⟨h, 1, none⟩ = some (.int .i64 y2.2) ∧ (w'.cell? ⟨w.heap.size, 0, none⟩ = some (peek w' ⟨w.heap.size, 0, none⟩) ∧ w'.frozen? ⟨w.heap.size, 0, none⟩ = false) ∧ (w'.cell? ⟨w.heap.size, 1, none⟩ = some (peek w' ⟨w.heap.size, 1, none⟩) ∧ w'.frozen? ⟨w.heap.size, 1, none⟩ = false)) (first | (with_reducible exact ((And.imp (cell_kept (by assumption)) (And.imp (cell_kept (by assumption)) (And.imp (pslot_kept (by assumption)) (pslot_kept (by assumption))))) (by assumption))) | (with_reducible exact ((And.imp (cell_alloc) (And.imp (cell_alloc) (And.imp (pslot_alloc) (pslot_alloc)))) (by assumption))) | (with_reducible exact ((And.imp (fun h => cell_far (by first | (simp; done) | (simp; omega) | (dsimp only; omega)) (cell_far (by first | (simp; done) | (simp; omega) | (dsimp only; omega)) h)) (And.imp (fun h => cell_far (by first | (simp; done) | (simp; omega) | (dsimp only; omega)) (cell_far (by first | (simp; done) | (simp; omega) | (dsimp only; omega)) h)) (And.imp (fun h => pslot_set (pslot_set h)) (fun h => pslot_set (pslot_set h))))) (by assumption))) | (refine ⟨?_, ?_, ?_, ?_⟩ <;> repeat (first | (with_reducible assumption) | (with_reducible refine cell_far (by first | (simp; done) | (simp; omega) | (dsimp only; omega)) ?_) | (with_reducible refine cell_drew ?_) | (with_reducible refine cell_drewN ?_) | (with_reducible refine cell_kept (by assumption) ?_) | (with_reducible exact pslot_of (by assumption) (by assumption)) | (with_reducible refine pslot_drew ?_) | (with_reducible refine pslot_kept (by assumption) ?_) | (with_reducible refine pslot_alloc ?_) | (simp [go_sem]; done) | (with_reducible refine cell_alloc ?_))) | (simp [go_sem, *]; done)) (first | (go_at_call 152; refine (L2.out _).mono ?_; rintro e w1 ⟨rfl, hb⟩; have hs : _ ≤ w1.heap.size := hb.size; (try simp at hs); obtain ⟨hc, hf, hl, hn, hm⟩ := behind hb) | (go_at_call 43; refine (AF.out _).mono ?_; rintro e w1 ⟨rfl, hb⟩; have hs : _ ≤ w1.heap.size := hb.size; (try simp at hs); obtain ⟨hc, hf, hl, hn, hm⟩ := behind hb))
                  all_goals (go_wp2; have o_j0 : Own (w1) (w.heap.size) 0 (.int .i64 0) := ownJ; obtain ⟨j0, f_j0⟩ := o_j0; have o_j1 : Own (w1) (w.heap.size) 1 (.int .i64 0) := ownJ; obtain ⟨j1, f_j1⟩ := o_j1; exact bodyPost_ret (v := .agg #[.int .i64 (y).1, .int .i64 (y).2]) (by simp [results, Tryz.results153, go_sem, j0, j1]) rfl ⟨by rw [EY.out], belB⟩)
theorem sLogAt_any (n : Int) (w : World) : Calls Tryz.prog 153 #[.int .i64 n] w fun e w' =>
    e = .returned (.agg #[.int .i64 (logF n).1, .int .i64 (logF n).2]) ∧ Below w.heap.size w w' := by
  by_cases h : LogN n
  · exact sLogAt_yes n h w
  · exact sLogAt_no n h w
end Go.Proofs.YtmikjgbojknlnaaGreatDoor
