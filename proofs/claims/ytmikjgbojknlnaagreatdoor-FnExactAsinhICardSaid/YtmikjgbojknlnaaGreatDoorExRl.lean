/- Contracts of logarithms and of inverse hyperbolic functions of intervals in the model. Conditions: numbers are int64. -/
import Derived.Test.YtmikjgbojknlnaaGreatDoorExB
import Derived.Test.YtmikjgbojknlnaaGreatDoorExZh
import Derived.Test.YtmikjgbojknlnaaGreatDoorExA
import Derived.Test.YtmikjgbojknlnaaGreatDoorIvM
import Derived.Test.YtmikjgbojknlnaaGreatDoorIvN
import Derived.Test.YtmikjgbojknlnaaGreatDoorIvS
import Derived.Test.YtmikjgbojknlnaaGreatDoorIvT
import Derived.Test.YtmikjgbojknlnaaGreatDoorIvX
import Derived.Deep.RegionHeld3
import Derived.Outline
namespace Go.Proofs.YtmikjgbojknlnaaGreatDoor
open Go.ChangeShapes Go.WideShapes Go.ChangeAt Go.RowKit
set_option linter.unusedVariables false
set_option maxRecDepth 100000
set_option linter.unusedSimpArgs false
set_option maxHeartbeats 1000000
theorem sLogI_any (x : Iv) (hx : Ok x) (w : World) : Calls Tryz.prog 148 #[.agg #[.int .i64 x.1, .int .i64 x.2]] w fun e w' =>
    e = .returned (.agg #[.int .i64 (monI (logF) x).1, .int .i64 (monI (logF) x).2]) ∧ Below w.heap.size w w' := by
  have C := Lib.hid (fun w => l04Ok_any x w)
  by_cases h : Bnd x
  · have B := Lib.hid (bnd_yes h)
    have f1 : FixN x.1 := by unfold Bnd at h; unfold FixN; omega
    have f2 : FixN x.2 := by unfold Bnd at h; unfold FixN; omega
    have E := Lib.hid (mon_yes (f := logF) h)
    have A1 := Lib.hid (fun w => sLogAt_any x.1 w)
    have A2 := Lib.hid (fun w => sLogAt_any x.2 w)
    have M := Lib.hid (fun w => l08Ends_any (logF x.1) (logF x.2) w)
    clear h f1 f2
    generalize monI (logF) x = Y at *
    generalize kn (bnd (logF x.1) && bnd (logF x.2)) ((logF x.1).1, (logF x.2).2) = z at *
    generalize logF x.1 = a1 at *
    generalize logF x.2 = a2 at *
    go_enter Tryz.func148, Tryz.ntmps148
    go_wp2_with fail
    refine (C.out _).mono ?_
    rintro e w1 ⟨rfl, hb1⟩
    have hs1 : _ ≤ w1.heap.size := hb1.size
    try simp at hs1
    rw [B.out]
    have o_x10 : Own (w1) (w.heap.size) 0 (.int .i64 x.1) := ownJ; have x10 := o_x10.1; have f_x10 := o_x10.2; have o_x11 : Own (w1) (w.heap.size) 1 (.int .i64 x.2) := ownJ; have x11 := o_x11.1; have f_x11 := o_x11.2
    have o_r10 : Own (w1) (w.heap.size + 1) 0 (.int .i64 0) := ownJ; have r10 := o_r10.1; have f_r10 := o_r10.2; have o_r11 : Own (w1) (w.heap.size + 1) 1 (.int .i64 0) := ownJ; have r11 := o_r11.1; have f_r11 := o_r11.2
    have zz1 : w.heap.size < w1.heap.size := World.block_lt_of_cell? _ _ x10; obtain ⟨zz1a, zz1b, zz1c, zz1d, zz1e, zz1f, zz1g, zz1h, zz1i⟩ := below_more zz1; have zn1 : ¬ w.heap.size = w1.heap.size := Nat.ne_of_lt zz1; have zm1 : ¬ w1.heap.size = w.heap.size := Nat.ne_of_gt zz1
    have zz2 : w.heap.size + 1 < w1.heap.size := World.block_lt_of_cell? _ _ r10; obtain ⟨zz2a, zz2b, zz2c, zz2d, zz2e, zz2f, zz2g, zz2h, zz2i⟩ := below_more zz2; have zn2 : ¬ w.heap.size + 1 = w1.heap.size := Nat.ne_of_lt zz2; have zm2 : ¬ w1.heap.size = w.heap.size + 1 := Nat.ne_of_gt zz2
    go_wp2_with fail
    have z0 := pslot_of (w := w1) (a := ⟨w.heap.size + 1, 0, none⟩) (v := .int .i64 0) o_r10.1 o_r10.2
    have z1 := pslot_of (w := w1) (a := ⟨w.heap.size + 1, 1, none⟩) (v := .int .i64 0) o_r11.1 o_r11.2
    obtain ⟨hlt2, hlt3, hlt4, hlt5, hlt6, hlt7, hlt8, hlt9, hlt10, hlt11⟩ := below_add; go_region_held3 (fun w' => w'.cell? ⟨w.heap.size, 0, none⟩ = some (.int .i64 x.1) ∧ w'.cell? ⟨w.heap.size, 1, none⟩ = some (.int .i64 x.2) ∧ (w'.cell? ⟨w.heap.size + 1, 0, none⟩ = some (peek w' ⟨w.heap.size + 1, 0, none⟩) ∧ w'.frozen? ⟨w.heap.size + 1, 0, none⟩ = false) ∧ (w'.cell? ⟨w.heap.size + 1, 1, none⟩ = some (peek w' ⟨w.heap.size + 1, 1, none⟩) ∧ w'.frozen? ⟨w.heap.size + 1, 1, none⟩ = false)) (first | (with_reducible exact ((And.imp (cell_kept (by assumption)) (And.imp (cell_kept (by assumption)) (And.imp (pslot_kept (by assumption)) (pslot_kept (by assumption))))) (by assumption))) | (with_reducible exact ((And.imp (cell_alloc) (And.imp (cell_alloc) (And.imp (pslot_alloc) (pslot_alloc)))) (by assumption))) | (with_reducible exact ((And.imp (fun h => cell_far (by first | (simp; done) | (simp; omega) | (dsimp only; omega)) (cell_far (by first | (simp; done) | (simp; omega) | (dsimp only; omega)) h)) (And.imp (fun h => cell_far (by first | (simp; done) | (simp; omega) | (dsimp only; omega)) (cell_far (by first | (simp; done) | (simp; omega) | (dsimp only; omega)) h)) (And.imp (fun h => pslot_set (pslot_set h)) (fun h => pslot_set (pslot_set h))))) (by assumption))) | (refine ⟨?_, ?_, ?_, ?_⟩ <;> repeat (first | (with_reducible assumption) | (with_reducible refine cell_far (by first | (simp; done) | (simp; omega) | (dsimp only; omega)) ?_) | (with_reducible refine cell_drew ?_) | (with_reducible refine cell_drewN ?_) | (with_reducible refine cell_kept (by assumption) ?_) | (with_reducible exact pslot_of (by assumption) (by assumption)) | (with_reducible refine pslot_drew ?_) | (with_reducible refine pslot_kept (by assumption) ?_) | (with_reducible refine pslot_alloc ?_) | (simp [go_sem]; done) | (with_reducible refine cell_alloc ?_))) | (simp [go_sem, *]; done)) (first | (go_at_call 153; with_reducible refine (A1.out _).mono ?_; rintro e w1 ⟨rfl, hb⟩; have hs : _ ≤ w1.heap.size := hb.size; (try simp at hs); obtain ⟨hc, hf, hl, hn, hm⟩ := behind hb) | (go_at_call 153; with_reducible refine (A2.out _).mono ?_; rintro e w1 ⟨rfl, hb⟩; have hs : _ ≤ w1.heap.size := hb.size; (try simp at hs); obtain ⟨hc, hf, hl, hn, hm⟩ := behind hb) | (go_at_call 97; refine (M.out _).mono ?_; rintro e w1 ⟨rfl, hb⟩; have hs : _ ≤ w1.heap.size := hb.size; (try simp at hs); obtain ⟨hc, hf, hl, hn, hm⟩ := behind hb))
    all_goals (go_wp2; have o_j0 : Own (w1) (w.heap.size + 1) 0 (.int .i64 0) := ownJ; obtain ⟨j0, f_j0⟩ := o_j0; have o_j1 : Own (w1) (w.heap.size + 1) 1 (.int .i64 0) := ownJ; obtain ⟨j1, f_j1⟩ := o_j1; exact bodyPost_ret (v := .agg #[.int .i64 (z).1, .int .i64 (z).2]) (by simp [results, Tryz.results148, go_sem, j0, j1]) rfl ⟨by rw [E.out], belB⟩)
  · have B := Lib.hid (bnd_no h)
    have E := Lib.hid (mon_no (f := logF) h)
    clear h
    generalize monI (logF) x = Y at *
    go_enter Tryz.func148, Tryz.ntmps148
    go_wp2_with fail
    refine (C.out _).mono ?_
    rintro e w1 ⟨rfl, hb1⟩
    have hs1 : _ ≤ w1.heap.size := hb1.size
    try simp at hs1
    rw [B.out]
    have o_r10 : Own (w1) (w.heap.size + 1) 0 (.int .i64 0) := ownJ; have r10 := o_r10.1; have f_r10 := o_r10.2; have o_r11 : Own (w1) (w.heap.size + 1) 1 (.int .i64 0) := ownJ; have r11 := o_r11.1; have f_r11 := o_r11.2
    go_wp2_with fail
    refine (l04Whole_any _).mono ?_
    rintro e w2 ⟨rfl, hb2⟩
    have hs2 : _ ≤ w2.heap.size := hb2.size
    try simp at hs2
    have o_q20 : Own (w2) (w.heap.size + 1) 0 (.int .i64 0) := ownJ; obtain ⟨q20, f_q20⟩ := o_q20; have o_q21 : Own (w2) (w.heap.size + 1) 1 (.int .i64 0) := ownJ; obtain ⟨q21, f_q21⟩ := o_q21
    go_wp2
    exact bodyPost_ret (v := .agg #[.int .i64 (-1152921504606846976), .int .i64 1152921504606846976]) (by simp [results, Tryz.results148, go_sem, q20, q21]) rfl ⟨(by first | (rw [E.out]; done) | (rw [E.out]; rfl) | (simp [E.out]; done)), belB⟩
theorem l08Asinh_pos (n : Int) (h : FixN n) (p : 0 ≤ n) (w : World) : Calls Tryz.prog 98 #[.int .i64 n] w fun e w' =>
    e = .returned (.agg #[.int .i64 (asihP n).1, .int .i64 (asihP n).2]) ∧ Below w.heap.size w w' := by
  obtain ⟨n0, n1⟩ := id h
  have s0 : decide (n < 0) = false := decide_eq_false (by omega)
  by_cases c : 35184372088832 < n
  · have E := Lib.hid (show asihP n = addI (addI (ln2 1) (logF n)) (0, 16) from if_pos c)
    have c0 : decide (n ≤ 35184372088832) = false := decide_eq_false (by omega)
    have L2 := Lib.hid (fun w => sLogTwoI_any 1 w)
    have LA := Lib.hid (fun w => sLogAt_any n w)
    have A1 := Lib.hid (fun w => sAddI_any (ln2 1) (logF n) w)
    have A2 := Lib.hid (fun w => sAddI_any (addI (ln2 1) (logF n)) (0, 16) w)
    clear c h
    generalize asihP n = Y at *
    generalize addI (addI (ln2 1) (logF n)) (0, 16) = z at *
    generalize addI (ln2 1) (logF n) = s at *
    generalize logF n = l at *
    generalize ln2 1 = t at *
    go_enter Tryz.func98, Tryz.ntmps98
    go_wp2_with fail
    refine (L2.out _).mono ?_
    rintro e w1 ⟨rfl, hb1⟩
    have hs1 : _ ≤ w1.heap.size := hb1.size
    try simp at hs1
    have o_q10 : Own (w1) (w.heap.size) 0 (.int .i64 0) := ownJ; have q10 := o_q10.1; have f_q10 := o_q10.2; have o_q11 : Own (w1) (w.heap.size) 1 (.int .i64 0) := ownJ; have q11 := o_q11.1; have f_q11 := o_q11.2
    go_wp2_with fail
    refine (LA.out _).mono ?_
    rintro e w2 ⟨rfl, hb2⟩
    have hs2 : _ ≤ w2.heap.size := hb2.size
    try simp at hs2
    have o_q20 : Own (w2) (w.heap.size) 0 (.int .i64 0) := ownJ; have q20 := o_q20.1; have f_q20 := o_q20.2; have o_q21 : Own (w2) (w.heap.size) 1 (.int .i64 0) := ownJ; have q21 := o_q21.1; have f_q21 := o_q21.2
    go_wp2_with fail
    refine (A1.out _).mono ?_
    rintro e w3 ⟨rfl, hb3⟩
    have hs3 : _ ≤ w3.heap.size := hb3.size
    try simp at hs3
    have o_q30 : Own (w3) (w.heap.size) 0 (.int .i64 0) := ownJ; have q30 := o_q30.1; have f_q30 := o_q30.2; have o_q31 : Own (w3) (w.heap.size) 1 (.int .i64 0) := ownJ; have q31 := o_q31.1; have f_q31 := o_q31.2
    go_wp2_with fail
    refine (A2.out _).mono ?_
    rintro e w4 ⟨rfl, hb4⟩
    have hs4 : _ ≤ w4.heap.size := hb4.size
    try simp at hs4
    have o_q40 : Own (w4) (w.heap.size) 0 (.int .i64 0) := ownJ; obtain ⟨q40, f_q40⟩ := o_q40; have o_q41 : Own (w4) (w.heap.size) 1 (.int .i64 0) := ownJ; obtain ⟨q41, f_q41⟩ := o_q41
    go_wp2
    exact bodyPost_ret (v := .agg #[.int .i64 (z).1, .int .i64 (z).2]) (by simp [results, Tryz.results98, go_sem, q40, q41]) rfl ⟨by rw [E.out], belB⟩
  · have E := Lib.hid (show asihP n = monI logF (addI (n, n) (sqrtI (addI (sqrI (n, n)) (intI 1)))) from if_neg c)
    have c0 : decide (n ≤ 35184372088832) = true := decide_eq_true (by omega)
    have SG := fun w => l08At_any n w
    rw [make_one h] at SG
    have SG := Lib.hid SG
    have Q := Lib.hid (fun w => sSqrI_any (n, n) w)
    have I1 := Lib.hid (fun w => l08One_any w)
    have A1 := Lib.hid (fun w => sAddI_any (sqrI (n, n)) (intI 1) w)
    have R := Lib.hid (fun w => sSqrtI_any (addI (sqrI (n, n)) (intI 1)) w)
    have A2 := Lib.hid (fun w => sAddI_any (n, n) (sqrtI (addI (sqrI (n, n)) (intI 1))) w)
    have LI := Lib.hid (fun w => sLogI_any (addI (n, n) (sqrtI (addI (sqrI (n, n)) (intI 1)))) (res_ok (add_res _ _)) w)
    clear c h
    generalize asihP n = Y at *
    generalize monI logF (addI (n, n) (sqrtI (addI (sqrI (n, n)) (intI 1)))) = z at *
    generalize addI (n, n) (sqrtI (addI (sqrI (n, n)) (intI 1))) = a2 at *
    generalize sqrtI (addI (sqrI (n, n)) (intI 1)) = r at *
    generalize addI (sqrI (n, n)) (intI 1) = a1 at *
    generalize sqrI (n, n) = q at *
    generalize intI 1 = i1 at *
    go_enter Tryz.func98, Tryz.ntmps98
    go_wp2_with fail
    refine (SG.out _).mono ?_
    rintro e w1 ⟨rfl, hb1⟩
    have hs1 : _ ≤ w1.heap.size := hb1.size
    try simp at hs1
    have o_q10 : Own (w1) (w.heap.size) 0 (.int .i64 0) := ownJ; have q10 := o_q10.1; have f_q10 := o_q10.2; have o_q11 : Own (w1) (w.heap.size) 1 (.int .i64 0) := ownJ; have q11 := o_q11.1; have f_q11 := o_q11.2
    go_wp2_with fail
    refine (SG.out _).mono ?_
    rintro e w2 ⟨rfl, hb2⟩
    have hs2 : _ ≤ w2.heap.size := hb2.size
    try simp at hs2
    have o_q20 : Own (w2) (w.heap.size) 0 (.int .i64 0) := ownJ; have q20 := o_q20.1; have f_q20 := o_q20.2; have o_q21 : Own (w2) (w.heap.size) 1 (.int .i64 0) := ownJ; have q21 := o_q21.1; have f_q21 := o_q21.2
    go_wp2_with fail
    refine (Q.out _).mono ?_
    rintro e w3 ⟨rfl, hb3⟩
    have hs3 : _ ≤ w3.heap.size := hb3.size
    try simp at hs3
    have o_q30 : Own (w3) (w.heap.size) 0 (.int .i64 0) := ownJ; have q30 := o_q30.1; have f_q30 := o_q30.2; have o_q31 : Own (w3) (w.heap.size) 1 (.int .i64 0) := ownJ; have q31 := o_q31.1; have f_q31 := o_q31.2
    go_wp2_with fail
    refine (I1.out _).mono ?_
    rintro e w4 ⟨rfl, hb4⟩
    have hs4 : _ ≤ w4.heap.size := hb4.size
    try simp at hs4
    have o_q40 : Own (w4) (w.heap.size) 0 (.int .i64 0) := ownJ; have q40 := o_q40.1; have f_q40 := o_q40.2; have o_q41 : Own (w4) (w.heap.size) 1 (.int .i64 0) := ownJ; have q41 := o_q41.1; have f_q41 := o_q41.2
    go_wp2_with fail
    refine (A1.out _).mono ?_
    rintro e w5 ⟨rfl, hb5⟩
    have hs5 : _ ≤ w5.heap.size := hb5.size
    try simp at hs5
    have o_q50 : Own (w5) (w.heap.size) 0 (.int .i64 0) := ownJ; have q50 := o_q50.1; have f_q50 := o_q50.2; have o_q51 : Own (w5) (w.heap.size) 1 (.int .i64 0) := ownJ; have q51 := o_q51.1; have f_q51 := o_q51.2
    go_wp2_with fail
    refine (R.out _).mono ?_
    rintro e w6 ⟨rfl, hb6⟩
    have hs6 : _ ≤ w6.heap.size := hb6.size
    try simp at hs6
    have o_q60 : Own (w6) (w.heap.size) 0 (.int .i64 0) := ownJ; have q60 := o_q60.1; have f_q60 := o_q60.2; have o_q61 : Own (w6) (w.heap.size) 1 (.int .i64 0) := ownJ; have q61 := o_q61.1; have f_q61 := o_q61.2
    go_wp2_with fail
    refine (A2.out _).mono ?_
    rintro e w7 ⟨rfl, hb7⟩
    have hs7 : _ ≤ w7.heap.size := hb7.size
    try simp at hs7
    have o_q70 : Own (w7) (w.heap.size) 0 (.int .i64 0) := ownJ; have q70 := o_q70.1; have f_q70 := o_q70.2; have o_q71 : Own (w7) (w.heap.size) 1 (.int .i64 0) := ownJ; have q71 := o_q71.1; have f_q71 := o_q71.2
    go_wp2_with fail
    refine (LI.out _).mono ?_
    rintro e w8 ⟨rfl, hb8⟩
    have hs8 : _ ≤ w8.heap.size := hb8.size
    try simp at hs8
    have o_q80 : Own (w8) (w.heap.size) 0 (.int .i64 0) := ownJ; have q80 := o_q80.1; have f_q80 := o_q80.2; have o_q81 : Own (w8) (w.heap.size) 1 (.int .i64 0) := ownJ; have q81 := o_q81.1; have f_q81 := o_q81.2
    go_wp2
    exact bodyPost_ret (v := .agg #[.int .i64 (z).1, .int .i64 (z).2]) (by simp [results, Tryz.results98, go_sem, q80, q81]) rfl ⟨by rw [E.out], belB⟩
theorem l08Asinh_neg (n : Int) (h : FixN n) (s : n < 0) (w : World) : Calls Tryz.prog 98 #[.int .i64 n] w fun e w' =>
    e = .returned (.agg #[.int .i64 (oddF asihP n).1, .int .i64 (oddF asihP n).2]) ∧ Below w.heap.size w w' := by
  obtain ⟨n0, n1⟩ := id h
  have WN : IntKind.i64.wrap (-n) = -n := wrapS (by unfold In64; omega)
  have s0 : decide (n < 0) = true := decide_eq_true s
  have A := Lib.hid (fun w => l08Asinh_pos (-n) (by unfold FixN; omega) (by omega) w)
  have N := Lib.hid (fun w => sNegI_any (asihP (-n)) w)
  have E := Lib.hid (show oddF asihP n = negI (asihP (-n)) from if_pos s)
  clear h
  generalize oddF asihP n = Y at *
  generalize negI (asihP (-n)) = z at *
  generalize asihP (-n) = a at *
  go_enter Tryz.func98, Tryz.ntmps98
  go_wp2_with fail
  refine (A.out _).mono ?_
  rintro e w1 ⟨rfl, hb1⟩
  have hs1 : _ ≤ w1.heap.size := hb1.size
  try simp at hs1
  have o_q10 : Own (w1) (w.heap.size) 0 (.int .i64 0) := ownJ; have q10 := o_q10.1; have f_q10 := o_q10.2; have o_q11 : Own (w1) (w.heap.size) 1 (.int .i64 0) := ownJ; have q11 := o_q11.1; have f_q11 := o_q11.2
  go_wp2_with fail
  refine (N.out _).mono ?_
  rintro e w2 ⟨rfl, hb2⟩
  have hs2 : _ ≤ w2.heap.size := hb2.size
  try simp at hs2
  have o_q20 : Own (w2) (w.heap.size) 0 (.int .i64 0) := ownJ; obtain ⟨q20, f_q20⟩ := o_q20; have o_q21 : Own (w2) (w.heap.size) 1 (.int .i64 0) := ownJ; obtain ⟨q21, f_q21⟩ := o_q21
  go_wp2
  exact bodyPost_ret (v := .agg #[.int .i64 (z).1, .int .i64 (z).2]) (by simp [results, Tryz.results98, go_sem, q20, q21]) rfl ⟨by rw [E.out], belB⟩
theorem l08Asinh_any (n : Int) (h : FixN n) (w : World) : Calls Tryz.prog 98 #[.int .i64 n] w fun e w' =>
    e = .returned (.agg #[.int .i64 (oddF asihP n).1, .int .i64 (oddF asihP n).2]) ∧ Below w.heap.size w w' := by
  by_cases s : n < 0
  · exact l08Asinh_neg n h s w
  · rw [show oddF asihP n = asihP n from if_neg s]
    exact l08Asinh_pos n h (by omega) w
theorem sAsinhI_any (x : Iv) (hx : Ok x) (w : World) : Calls Tryz.prog 36 #[.agg #[.int .i64 x.1, .int .i64 x.2]] w fun e w' =>
    e = .returned (.agg #[.int .i64 (monI (oddF asihP) x).1, .int .i64 (monI (oddF asihP) x).2]) ∧ Below w.heap.size w w' := by
  have C := Lib.hid (fun w => l04Ok_any x w)
  by_cases h : Bnd x
  · have B := Lib.hid (bnd_yes h)
    have f1 : FixN x.1 := by unfold Bnd at h; unfold FixN; omega
    have f2 : FixN x.2 := by unfold Bnd at h; unfold FixN; omega
    have E := Lib.hid (mon_yes (f := oddF asihP) h)
    have A1 := Lib.hid (fun w => l08Asinh_any x.1 f1 w)
    have A2 := Lib.hid (fun w => l08Asinh_any x.2 f2 w)
    have M := Lib.hid (fun w => l08Ends_any (oddF asihP x.1) (oddF asihP x.2) w)
    clear h f1 f2
    generalize monI (oddF asihP) x = Y at *
    generalize kn (bnd (oddF asihP x.1) && bnd (oddF asihP x.2)) ((oddF asihP x.1).1, (oddF asihP x.2).2) = z at *
    generalize oddF asihP x.1 = a1 at *
    generalize oddF asihP x.2 = a2 at *
    go_enter Tryz.func36, Tryz.ntmps36
    go_wp2_with fail
    refine (C.out _).mono ?_
    rintro e w1 ⟨rfl, hb1⟩
    have hs1 : _ ≤ w1.heap.size := hb1.size
    try simp at hs1
    rw [B.out]
    have o_x10 : Own (w1) (w.heap.size) 0 (.int .i64 x.1) := ownJ; have x10 := o_x10.1; have f_x10 := o_x10.2; have o_x11 : Own (w1) (w.heap.size) 1 (.int .i64 x.2) := ownJ; have x11 := o_x11.1; have f_x11 := o_x11.2
    have o_r10 : Own (w1) (w.heap.size + 1) 0 (.int .i64 0) := ownJ; have r10 := o_r10.1; have f_r10 := o_r10.2; have o_r11 : Own (w1) (w.heap.size + 1) 1 (.int .i64 0) := ownJ; have r11 := o_r11.1; have f_r11 := o_r11.2
    have zz1 : w.heap.size < w1.heap.size := World.block_lt_of_cell? _ _ x10; obtain ⟨zz1a, zz1b, zz1c, zz1d, zz1e, zz1f, zz1g, zz1h, zz1i⟩ := below_more zz1; have zn1 : ¬ w.heap.size = w1.heap.size := Nat.ne_of_lt zz1; have zm1 : ¬ w1.heap.size = w.heap.size := Nat.ne_of_gt zz1
    have zz2 : w.heap.size + 1 < w1.heap.size := World.block_lt_of_cell? _ _ r10; obtain ⟨zz2a, zz2b, zz2c, zz2d, zz2e, zz2f, zz2g, zz2h, zz2i⟩ := below_more zz2; have zn2 : ¬ w.heap.size + 1 = w1.heap.size := Nat.ne_of_lt zz2; have zm2 : ¬ w1.heap.size = w.heap.size + 1 := Nat.ne_of_gt zz2
    go_wp2_with fail
    have z0 := pslot_of (w := w1) (a := ⟨w.heap.size + 1, 0, none⟩) (v := .int .i64 0) o_r10.1 o_r10.2
    have z1 := pslot_of (w := w1) (a := ⟨w.heap.size + 1, 1, none⟩) (v := .int .i64 0) o_r11.1 o_r11.2
    obtain ⟨hlt2, hlt3, hlt4, hlt5, hlt6, hlt7, hlt8, hlt9, hlt10, hlt11⟩ := below_add; go_region_held3 (fun w' => w'.cell? ⟨w.heap.size, 0, none⟩ = some (.int .i64 x.1) ∧ w'.cell? ⟨w.heap.size, 1, none⟩ = some (.int .i64 x.2) ∧ (w'.cell? ⟨w.heap.size + 1, 0, none⟩ = some (peek w' ⟨w.heap.size + 1, 0, none⟩) ∧ w'.frozen? ⟨w.heap.size + 1, 0, none⟩ = false) ∧ (w'.cell? ⟨w.heap.size + 1, 1, none⟩ = some (peek w' ⟨w.heap.size + 1, 1, none⟩) ∧ w'.frozen? ⟨w.heap.size + 1, 1, none⟩ = false)) (first | (with_reducible exact ((And.imp (cell_kept (by assumption)) (And.imp (cell_kept (by assumption)) (And.imp (pslot_kept (by assumption)) (pslot_kept (by assumption))))) (by assumption))) | (with_reducible exact ((And.imp (cell_alloc) (And.imp (cell_alloc) (And.imp (pslot_alloc) (pslot_alloc)))) (by assumption))) | (with_reducible exact ((And.imp (fun h => cell_far (by first | (simp; done) | (simp; omega) | (dsimp only; omega)) (cell_far (by first | (simp; done) | (simp; omega) | (dsimp only; omega)) h)) (And.imp (fun h => cell_far (by first | (simp; done) | (simp; omega) | (dsimp only; omega)) (cell_far (by first | (simp; done) | (simp; omega) | (dsimp only; omega)) h)) (And.imp (fun h => pslot_set (pslot_set h)) (fun h => pslot_set (pslot_set h))))) (by assumption))) | (refine ⟨?_, ?_, ?_, ?_⟩ <;> repeat (first | (with_reducible assumption) | (with_reducible refine cell_far (by first | (simp; done) | (simp; omega) | (dsimp only; omega)) ?_) | (with_reducible refine cell_drew ?_) | (with_reducible refine cell_drewN ?_) | (with_reducible refine cell_kept (by assumption) ?_) | (with_reducible exact pslot_of (by assumption) (by assumption)) | (with_reducible refine pslot_drew ?_) | (with_reducible refine pslot_kept (by assumption) ?_) | (with_reducible refine pslot_alloc ?_) | (simp [go_sem]; done) | (with_reducible refine cell_alloc ?_))) | (simp [go_sem, *]; done)) (first | (go_at_call 98; with_reducible refine (A1.out _).mono ?_; rintro e w1 ⟨rfl, hb⟩; have hs : _ ≤ w1.heap.size := hb.size; (try simp at hs); obtain ⟨hc, hf, hl, hn, hm⟩ := behind hb) | (go_at_call 98; with_reducible refine (A2.out _).mono ?_; rintro e w1 ⟨rfl, hb⟩; have hs : _ ≤ w1.heap.size := hb.size; (try simp at hs); obtain ⟨hc, hf, hl, hn, hm⟩ := behind hb) | (go_at_call 97; refine (M.out _).mono ?_; rintro e w1 ⟨rfl, hb⟩; have hs : _ ≤ w1.heap.size := hb.size; (try simp at hs); obtain ⟨hc, hf, hl, hn, hm⟩ := behind hb))
    all_goals (go_wp2; have o_j0 : Own (w1) (w.heap.size + 1) 0 (.int .i64 0) := ownJ; obtain ⟨j0, f_j0⟩ := o_j0; have o_j1 : Own (w1) (w.heap.size + 1) 1 (.int .i64 0) := ownJ; obtain ⟨j1, f_j1⟩ := o_j1; exact bodyPost_ret (v := .agg #[.int .i64 (z).1, .int .i64 (z).2]) (by simp [results, Tryz.results36, go_sem, j0, j1]) rfl ⟨by rw [E.out], belB⟩)
  · have B := Lib.hid (bnd_no h)
    have E := Lib.hid (mon_no (f := oddF asihP) h)
    clear h
    generalize monI (oddF asihP) x = Y at *
    go_enter Tryz.func36, Tryz.ntmps36
    go_wp2_with fail
    refine (C.out _).mono ?_
    rintro e w1 ⟨rfl, hb1⟩
    have hs1 : _ ≤ w1.heap.size := hb1.size
    try simp at hs1
    rw [B.out]
    have o_r10 : Own (w1) (w.heap.size + 1) 0 (.int .i64 0) := ownJ; have r10 := o_r10.1; have f_r10 := o_r10.2; have o_r11 : Own (w1) (w.heap.size + 1) 1 (.int .i64 0) := ownJ; have r11 := o_r11.1; have f_r11 := o_r11.2
    go_wp2_with fail
    refine (l04Whole_any _).mono ?_
    rintro e w2 ⟨rfl, hb2⟩
    have hs2 : _ ≤ w2.heap.size := hb2.size
    try simp at hs2
    have o_q20 : Own (w2) (w.heap.size + 1) 0 (.int .i64 0) := ownJ; obtain ⟨q20, f_q20⟩ := o_q20; have o_q21 : Own (w2) (w.heap.size + 1) 1 (.int .i64 0) := ownJ; obtain ⟨q21, f_q21⟩ := o_q21
    go_wp2
    exact bodyPost_ret (v := .agg #[.int .i64 (-1152921504606846976), .int .i64 1152921504606846976]) (by simp [results, Tryz.results36, go_sem, q20, q21]) rfl ⟨(by first | (rw [E.out]; done) | (rw [E.out]; rfl) | (simp [E.out]; done)), belB⟩
end Go.Proofs.YtmikjgbojknlnaaGreatDoor
