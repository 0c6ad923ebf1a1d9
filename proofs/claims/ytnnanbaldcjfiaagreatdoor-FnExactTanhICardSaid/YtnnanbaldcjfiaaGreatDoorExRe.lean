/- Contracts of exponentials and of hyperbolic functions of intervals in the model. Conditions: numbers are int64. -/
import Derived.Test.YtnnanbaldcjfiaaGreatDoorExB
import Derived.Test.YtnnanbaldcjfiaaGreatDoorExE
import Derived.Test.YtnnanbaldcjfiaaGreatDoorIvM
import Derived.Test.YtnnanbaldcjfiaaGreatDoorIvN
import Derived.Test.YtnnanbaldcjfiaaGreatDoorIvS
import Derived.Test.YtnnanbaldcjfiaaGreatDoorIvT
import Derived.Test.YtnnanbaldcjfiaaGreatDoorIvX
import Derived.Deep.RegionHeld3
import Derived.Outline
namespace Go.Proofs.YtnnanbaldcjfiaaGreatDoor
open Go.ChangeShapes Go.WideShapes Go.ChangeAt Go.RowKit
set_option linter.unusedVariables false
set_option maxRecDepth 100000
set_option linter.unusedSimpArgs false
set_option maxHeartbeats 1000000
theorem sExpI_any (x : Iv) (hx : Ok x) (w : World) : Calls Tryz.prog 14 #[.agg #[.int .i64 x.1, .int .i64 x.2]] w fun e w' =>
    e = .returned (.agg #[.int .i64 (monI (expF) x).1, .int .i64 (monI (expF) x).2]) ∧ Below w.heap.size w w' := by
  have C := Lib.hid (fun w => l04Ok_any x w)
  by_cases h : Bnd x
  · have B := Lib.hid (bnd_yes h)
    have f1 : FixN x.1 := by unfold Bnd at h; unfold FixN; omega
    have f2 : FixN x.2 := by unfold Bnd at h; unfold FixN; omega
    have E := Lib.hid (mon_yes (f := expF) h)
    have A1 := Lib.hid (fun w => sExpAt_any x.1 w)
    have A2 := Lib.hid (fun w => sExpAt_any x.2 w)
    have M := Lib.hid (fun w => l08Ends_any (expF x.1) (expF x.2) w)
    clear h f1 f2
    generalize monI (expF) x = Y at *
    generalize kn (bnd (expF x.1) && bnd (expF x.2)) ((expF x.1).1, (expF x.2).2) = z at *
    generalize expF x.1 = a1 at *
    generalize expF x.2 = a2 at *
    go_enter Tryz.func14, Tryz.ntmps14
    go_wp2_with fail
    refine (C.out _).mono ?_
    rintro e w1 ⟨rfl, hb1⟩
    have hs1 : _ ≤ w1.heap.size := hb1.size
    try simp at hs1
    rw [B.out]
    have o_x10 : Own (w1) (w.heap.size) 0 (.int .i64 x.1) := ownJ; have x10 := o_x10.1; have f_x10 := o_x10.2; have o_x11 : Own (w1) (w.heap.size) 1 (.int .i64 x.2) := ownJ; have x11 := o_x11.1; have f_x11 := o_x11.2
    have o_r10 : Own (w1) (w.heap.size + 1) 0 (.int .i64 0) := ownJ; have r10 := o_r10.1; have f_r10 := o_r10.2; have o_r11 : Own (w1) (w.heap.size + 1) 1 (.int .i64 0) := ownJ; have r11 := o_r11.1; have f_r11 := o_r11.2
    have zz1 : w.heap.size < w1.heap.size := World.block_lt_of_cell? _ _ x10; obtain ⟨zz1a, zz1b, zz1c, zz1d, zz1e, zz1f, zz1g, zz1h, zz1i⟩ := below_more zz1; have zn1 : ¬ w.heap.size = w1.heap.size := Nat.ne_of_lt zz1; have zm1 : ¬ w1.heap.size = w.heap.size := Nat.ne_of_gt zz1
    have zz2 : w.heap.size + 1 < w1.heap.size := World.block_lt_of_cell? _ _ r10; obtain ⟨zz2a, zz2b, zz2c, zz2d, zz2e, zz2f, zz2g, zz2h, zz2i⟩ := below_more zz2; have zn2 : ¬ w.heap.size + 1 = w1.heap.size := Nat.ne_of_lt zz2; have zm2 : ¬ w1.heap.size = w.heap.size + 1 := Nat.ne_of_gt zz2
    go_wp2_with fail
    have z0 := pslot_of (w := w1) (a := ⟨w.heap.size + 1, 0, none⟩) (v := .int .i64 0) o_r10.1 o_r10.2
    have z1 := pslot_of (w := w1) (a := ⟨w.heap.size + 1, 1, none⟩) (v := .int .i64 0) o_r11.1 o_r11.2
    obtain ⟨hlt2, hlt3, hlt4, hlt5, hlt6, hlt7, hlt8, hlt9, hlt10, hlt11⟩ := below_add; go_region_held3 (fun w' => w'.cell? ⟨w.heap.size, 0, none⟩ = some (.int .i64 x.1) ∧ w'.cell? ⟨w.heap.size, 1, none⟩ = some (.int .i64 x.2) ∧ (w'.cell? ⟨w.heap.size + 1, 0, none⟩ = some (peek w' ⟨w.heap.size + 1, 0, none⟩) ∧ w'.frozen? ⟨w.heap.size + 1, 0, none⟩ = false) ∧ (w'.cell? ⟨w.heap.size + 1, 1, none⟩ = some (peek w' ⟨w.heap.size + 1, 1, none⟩) ∧ w'.frozen? ⟨w.heap.size + 1, 1, none⟩ = false)) (first | (with_reducible exact ((And.imp (cell_kept (by assumption)) (And.imp (cell_kept (by assumption)) (And.imp (pslot_kept (by assumption)) (pslot_kept (by assumption))))) (by assumption))) | (with_reducible exact ((And.imp (cell_alloc) (And.imp (cell_alloc) (And.imp (pslot_alloc) (pslot_alloc)))) (by assumption))) | (with_reducible exact ((And.imp (fun h => cell_far (by first | (simp; done) | (simp; omega) | (dsimp only; omega)) (cell_far (by first | (simp; done) | (simp; omega) | (dsimp only; omega)) h)) (And.imp (fun h => cell_far (by first | (simp; done) | (simp; omega) | (dsimp only; omega)) (cell_far (by first | (simp; done) | (simp; omega) | (dsimp only; omega)) h)) (And.imp (fun h => pslot_set (pslot_set h)) (fun h => pslot_set (pslot_set h))))) (by assumption))) | (refine ⟨?_, ?_, ?_, ?_⟩ <;> repeat (first | (with_reducible assumption) | (with_reducible refine cell_far (by first | (simp; done) | (simp; omega) | (dsimp only; omega)) ?_) | (with_reducible refine cell_drew ?_) | (with_reducible refine cell_drewN ?_) | (with_reducible refine cell_kept (by assumption) ?_) | (with_reducible exact pslot_of (by assumption) (by assumption)) | (with_reducible refine pslot_drew ?_) | (with_reducible refine pslot_kept (by assumption) ?_) | (with_reducible refine pslot_alloc ?_) | (simp [go_sem]; done) | (with_reducible refine cell_alloc ?_))) | (simp [go_sem, *]; done)) (first | (go_at_call 54; with_reducible refine (A1.out _).mono ?_; rintro e w1 ⟨rfl, hb⟩; have hs : _ ≤ w1.heap.size := hb.size; (try simp at hs); obtain ⟨hc, hf, hl, hn, hm⟩ := behind hb) | (go_at_call 54; with_reducible refine (A2.out _).mono ?_; rintro e w1 ⟨rfl, hb⟩; have hs : _ ≤ w1.heap.size := hb.size; (try simp at hs); obtain ⟨hc, hf, hl, hn, hm⟩ := behind hb) | (go_at_call 53; refine (M.out _).mono ?_; rintro e w1 ⟨rfl, hb⟩; have hs : _ ≤ w1.heap.size := hb.size; (try simp at hs); obtain ⟨hc, hf, hl, hn, hm⟩ := behind hb))
    all_goals (go_wp2; have o_j0 : Own (w1) (w.heap.size + 1) 0 (.int .i64 0) := ownJ; obtain ⟨j0, f_j0⟩ := o_j0; have o_j1 : Own (w1) (w.heap.size + 1) 1 (.int .i64 0) := ownJ; obtain ⟨j1, f_j1⟩ := o_j1; exact bodyPost_ret (v := .agg #[.int .i64 (z).1, .int .i64 (z).2]) (by simp [results, Tryz.results14, go_sem, j0, j1]) rfl ⟨by rw [E.out], belB⟩)
  · have B := Lib.hid (bnd_no h)
    have E := Lib.hid (mon_no (f := expF) h)
    clear h
    generalize monI (expF) x = Y at *
    go_enter Tryz.func14, Tryz.ntmps14
    go_wp2_with fail
    refine (C.out _).mono ?_
    rintro e w1 ⟨rfl, hb1⟩
    have hs1 : _ ≤ w1.heap.size := hb1.size
    try simp at hs1
    rw [B.out]
    have o_r10 : Own (w1) (w.heap.size + 1) 0 (.int .i64 0) := ownJ; have r10 := o_r10.1; have f_r10 := o_r10.2; have o_r11 : Own (w1) (w.heap.size + 1) 1 (.int .i64 0) := ownJ; have r11 := o_r11.1; have f_r11 := o_r11.2
    go_wp2_with fail
    refine (l04Whole_any _).mono ?_
    rintro e w2 ⟨rfl, hb2⟩
    have hs2 : _ ≤ w2.heap.size := hb2.size
    try simp at hs2
    have o_q20 : Own (w2) (w.heap.size + 1) 0 (.int .i64 0) := ownJ; obtain ⟨q20, f_q20⟩ := o_q20; have o_q21 : Own (w2) (w.heap.size + 1) 1 (.int .i64 0) := ownJ; obtain ⟨q21, f_q21⟩ := o_q21
    go_wp2
    exact bodyPost_ret (v := .agg #[.int .i64 (-1152921504606846976), .int .i64 1152921504606846976]) (by simp [results, Tryz.results14, go_sem, q20, q21]) rfl ⟨(by first | (rw [E.out]; done) | (rw [E.out]; rfl) | (simp [E.out]; done)), belB⟩
theorem l08Sinh_any (n : Int) (h : FixN n) (w : World) : Calls Tryz.prog 57 #[.int .i64 n] w fun e w' =>
    e = .returned (.agg #[.int .i64 (sinhF n).1, .int .i64 (sinhF n).2]) ∧ Below w.heap.size w w' := by
  have WN : IntKind.i64.wrap (-n) = -n := wrapS (by unfold FixN at h; unfold In64; omega)
  have A := Lib.hid (fun w => sExpAt_any n w)
  have B := Lib.hid (fun w => sExpAt_any (-n) w)
  have S := Lib.hid (fun w => sSubI_any (expF n) (expF (-n)) w)
  have H := Lib.hid (fun w => sHalfI_any (subI (expF n) (expF (-n))) w)
  have E := Lib.hid (show sinhF n = halfI (subI (expF n) (expF (-n))) from rfl)
  obtain ⟨n0, n1⟩ := id h
  clear h
  generalize sinhF n = Y at *
  generalize halfI (subI (expF n) (expF (-n))) = z at *
  generalize subI (expF n) (expF (-n)) = s at *
  generalize expF (-n) = q at *
  generalize expF n = p at *
  go_enter Tryz.func57, Tryz.ntmps57
  go_wp2_with fail
  refine (A.out _).mono ?_
  rintro e w1 ⟨rfl, hb1⟩
  have hs1 : _ ≤ w1.heap.size := hb1.size
  try simp at hs1
  have o_q10 : Own (w1) (w.heap.size) 0 (.int .i64 0) := ownJ; have q10 := o_q10.1; have f_q10 := o_q10.2; have o_q11 : Own (w1) (w.heap.size) 1 (.int .i64 0) := ownJ; have q11 := o_q11.1; have f_q11 := o_q11.2
  go_wp2_with fail
  refine (B.out _).mono ?_
  rintro e w2 ⟨rfl, hb2⟩
  have hs2 : _ ≤ w2.heap.size := hb2.size
  try simp at hs2
  have o_q20 : Own (w2) (w.heap.size) 0 (.int .i64 0) := ownJ; have q20 := o_q20.1; have f_q20 := o_q20.2; have o_q21 : Own (w2) (w.heap.size) 1 (.int .i64 0) := ownJ; have q21 := o_q21.1; have f_q21 := o_q21.2
  go_wp2_with fail
  refine (S.out _).mono ?_
  rintro e w3 ⟨rfl, hb3⟩
  have hs3 : _ ≤ w3.heap.size := hb3.size
  try simp at hs3
  have o_q30 : Own (w3) (w.heap.size) 0 (.int .i64 0) := ownJ; have q30 := o_q30.1; have f_q30 := o_q30.2; have o_q31 : Own (w3) (w.heap.size) 1 (.int .i64 0) := ownJ; have q31 := o_q31.1; have f_q31 := o_q31.2
  go_wp2_with fail
  refine (H.out _).mono ?_
  rintro e w4 ⟨rfl, hb4⟩
  have hs4 : _ ≤ w4.heap.size := hb4.size
  try simp at hs4
  have o_q40 : Own (w4) (w.heap.size) 0 (.int .i64 0) := ownJ; obtain ⟨q40, f_q40⟩ := o_q40; have o_q41 : Own (w4) (w.heap.size) 1 (.int .i64 0) := ownJ; obtain ⟨q41, f_q41⟩ := o_q41
  go_wp2
  exact bodyPost_ret (v := .agg #[.int .i64 (z).1, .int .i64 (z).2]) (by simp [results, Tryz.results57, go_sem, q40, q41]) rfl ⟨by rw [E.out], belB⟩
theorem l08Cosh_any (n : Int) (h : FixN n) (w : World) : Calls Tryz.prog 61 #[.int .i64 n] w fun e w' =>
    e = .returned (.agg #[.int .i64 (coshF n).1, .int .i64 (coshF n).2]) ∧ Below w.heap.size w w' := by
  have WN : IntKind.i64.wrap (-n) = -n := wrapS (by unfold FixN at h; unfold In64; omega)
  have A := Lib.hid (fun w => sExpAt_any n w)
  have B := Lib.hid (fun w => sExpAt_any (-n) w)
  have S := Lib.hid (fun w => sAddI_any (expF n) (expF (-n)) w)
  have H := Lib.hid (fun w => sHalfI_any (addI (expF n) (expF (-n))) w)
  have E := Lib.hid (show coshF n = halfI (addI (expF n) (expF (-n))) from rfl)
  obtain ⟨n0, n1⟩ := id h
  clear h
  generalize coshF n = Y at *
  generalize halfI (addI (expF n) (expF (-n))) = z at *
  generalize addI (expF n) (expF (-n)) = s at *
  generalize expF (-n) = q at *
  generalize expF n = p at *
  go_enter Tryz.func61, Tryz.ntmps61
  go_wp2_with fail
  refine (A.out _).mono ?_
  rintro e w1 ⟨rfl, hb1⟩
  have hs1 : _ ≤ w1.heap.size := hb1.size
  try simp at hs1
  have o_q10 : Own (w1) (w.heap.size) 0 (.int .i64 0) := ownJ; have q10 := o_q10.1; have f_q10 := o_q10.2; have o_q11 : Own (w1) (w.heap.size) 1 (.int .i64 0) := ownJ; have q11 := o_q11.1; have f_q11 := o_q11.2
  go_wp2_with fail
  refine (B.out _).mono ?_
  rintro e w2 ⟨rfl, hb2⟩
  have hs2 : _ ≤ w2.heap.size := hb2.size
  try simp at hs2
  have o_q20 : Own (w2) (w.heap.size) 0 (.int .i64 0) := ownJ; have q20 := o_q20.1; have f_q20 := o_q20.2; have o_q21 : Own (w2) (w.heap.size) 1 (.int .i64 0) := ownJ; have q21 := o_q21.1; have f_q21 := o_q21.2
  go_wp2_with fail
  refine (S.out _).mono ?_
  rintro e w3 ⟨rfl, hb3⟩
  have hs3 : _ ≤ w3.heap.size := hb3.size
  try simp at hs3
  have o_q30 : Own (w3) (w.heap.size) 0 (.int .i64 0) := ownJ; have q30 := o_q30.1; have f_q30 := o_q30.2; have o_q31 : Own (w3) (w.heap.size) 1 (.int .i64 0) := ownJ; have q31 := o_q31.1; have f_q31 := o_q31.2
  go_wp2_with fail
  refine (H.out _).mono ?_
  rintro e w4 ⟨rfl, hb4⟩
  have hs4 : _ ≤ w4.heap.size := hb4.size
  try simp at hs4
  have o_q40 : Own (w4) (w.heap.size) 0 (.int .i64 0) := ownJ; obtain ⟨q40, f_q40⟩ := o_q40; have o_q41 : Own (w4) (w.heap.size) 1 (.int .i64 0) := ownJ; obtain ⟨q41, f_q41⟩ := o_q41
  go_wp2
  exact bodyPost_ret (v := .agg #[.int .i64 (z).1, .int .i64 (z).2]) (by simp [results, Tryz.results61, go_sem, q40, q41]) rfl ⟨by rw [E.out], belB⟩
theorem sSinhI_any (x : Iv) (hx : Ok x) (w : World) : Calls Tryz.prog 19 #[.agg #[.int .i64 x.1, .int .i64 x.2]] w fun e w' =>
    e = .returned (.agg #[.int .i64 (monI (sinhF) x).1, .int .i64 (monI (sinhF) x).2]) ∧ Below w.heap.size w w' := by
  have C := Lib.hid (fun w => l04Ok_any x w)
  by_cases h : Bnd x
  · have B := Lib.hid (bnd_yes h)
    have f1 : FixN x.1 := by unfold Bnd at h; unfold FixN; omega
    have f2 : FixN x.2 := by unfold Bnd at h; unfold FixN; omega
    have E := Lib.hid (mon_yes (f := sinhF) h)
    have A1 := Lib.hid (fun w => l08Sinh_any x.1 f1 w)
    have A2 := Lib.hid (fun w => l08Sinh_any x.2 f2 w)
    have M := Lib.hid (fun w => l08Ends_any (sinhF x.1) (sinhF x.2) w)
    clear h f1 f2
    generalize monI (sinhF) x = Y at *
    generalize kn (bnd (sinhF x.1) && bnd (sinhF x.2)) ((sinhF x.1).1, (sinhF x.2).2) = z at *
    generalize sinhF x.1 = a1 at *
    generalize sinhF x.2 = a2 at *
    go_enter Tryz.func19, Tryz.ntmps19
    go_wp2_with fail
    refine (C.out _).mono ?_
    rintro e w1 ⟨rfl, hb1⟩
    have hs1 : _ ≤ w1.heap.size := hb1.size
    try simp at hs1
    rw [B.out]
    have o_x10 : Own (w1) (w.heap.size) 0 (.int .i64 x.1) := ownJ; have x10 := o_x10.1; have f_x10 := o_x10.2; have o_x11 : Own (w1) (w.heap.size) 1 (.int .i64 x.2) := ownJ; have x11 := o_x11.1; have f_x11 := o_x11.2
    have o_r10 : Own (w1) (w.heap.size + 1) 0 (.int .i64 0) := ownJ; have r10 := o_r10.1; have f_r10 := o_r10.2; have o_r11 : Own (w1) (w.heap.size + 1) 1 (.int .i64 0) := ownJ; have r11 := o_r11.1; have f_r11 := o_r11.2
    have zz1 : w.heap.size < w1.heap.size := World.block_lt_of_cell? _ _ x10; obtain ⟨zz1a, zz1b, zz1c, zz1d, zz1e, zz1f, zz1g, zz1h, zz1i⟩ := below_more zz1; have zn1 : ¬ w.heap.size = w1.heap.size := Nat.ne_of_lt zz1; have zm1 : ¬ w1.heap.size = w.heap.size := Nat.ne_of_gt zz1
    have zz2 : w.heap.size + 1 < w1.heap.size := World.block_lt_of_cell? _ _ r10; obtain ⟨zz2a, zz2b, zz2c, zz2d, zz2e, zz2f, zz2g, zz2h, zz2i⟩ := below_more zz2; have zn2 : ¬ w.heap.size + 1 = w1.heap.size := Nat.ne_of_lt zz2; have zm2 : ¬ w1.heap.size = w.heap.size + 1 := Nat.ne_of_gt zz2
    go_wp2_with fail
    have z0 := pslot_of (w := w1) (a := ⟨w.heap.size + 1, 0, none⟩) (v := .int .i64 0) o_r10.1 o_r10.2
    have z1 := pslot_of (w := w1) (a := ⟨w.heap.size + 1, 1, none⟩) (v := .int .i64 0) o_r11.1 o_r11.2
    obtain ⟨hlt2, hlt3, hlt4, hlt5, hlt6, hlt7, hlt8, hlt9, hlt10, hlt11⟩ := below_add; go_region_held3 (fun w' => w'.cell? ⟨w.heap.size, 0, none⟩ = some (.int .i64 x.1) ∧ w'.cell? ⟨w.heap.size, 1, none⟩ = some (.int .i64 x.2) ∧ (w'.cell? ⟨w.heap.size + 1, 0, none⟩ = some (peek w' ⟨w.heap.size + 1, 0, none⟩) ∧ w'.frozen? ⟨w.heap.size + 1, 0, none⟩ = false) ∧ (w'.cell? ⟨w.heap.size + 1, 1, none⟩ = some (peek w' ⟨w.heap.size + 1, 1, none⟩) ∧ w'.frozen? ⟨w.heap.size + 1, 1, none⟩ = false)) (first | (with_reducible exact ((And.imp (cell_kept (by assumption)) (And.imp (cell_kept (by assumption)) (And.imp (pslot_kept (by assumption)) (pslot_kept (by assumption))))) (by assumption))) | (with_reducible exact ((And.imp (cell_alloc) (And.imp (cell_alloc) (And.imp (pslot_alloc) (pslot_alloc)))) (by assumption))) | (with_reducible exact ((And.imp (fun h => cell_far (by first | (simp; done) | (simp; omega) | (dsimp only; omega)) (cell_far (by first | (simp; done) | (simp; omega) | (dsimp only; omega)) h)) (And.imp (fun h => cell_far (by first | (simp; done) | (simp; omega) | (dsimp only; omega)) (cell_far (by first | (simp; done) | (simp; omega) | (dsimp only; omega)) h)) (And.imp (fun h => pslot_set (pslot_set h)) (fun h => pslot_set (pslot_set h))))) (by assumption))) | (refine ⟨?_, ?_, ?_, ?_⟩ <;> repeat (first | (with_reducible assumption) | (with_reducible refine cell_far (by first | (simp; done) | (simp; omega) | (dsimp only; omega)) ?_) | (with_reducible refine cell_drew ?_) | (with_reducible refine cell_drewN ?_) | (with_reducible refine cell_kept (by assumption) ?_) | (with_reducible exact pslot_of (by assumption) (by assumption)) | (with_reducible refine pslot_drew ?_) | (with_reducible refine pslot_kept (by assumption) ?_) | (with_reducible refine pslot_alloc ?_) | (simp [go_sem]; done) | (with_reducible refine cell_alloc ?_))) | (simp [go_sem, *]; done)) (first | (go_at_call 57; with_reducible refine (A1.out _).mono ?_; rintro e w1 ⟨rfl, hb⟩; have hs : _ ≤ w1.heap.size := hb.size; (try simp at hs); obtain ⟨hc, hf, hl, hn, hm⟩ := behind hb) | (go_at_call 57; with_reducible refine (A2.out _).mono ?_; rintro e w1 ⟨rfl, hb⟩; have hs : _ ≤ w1.heap.size := hb.size; (try simp at hs); obtain ⟨hc, hf, hl, hn, hm⟩ := behind hb) | (go_at_call 53; refine (M.out _).mono ?_; rintro e w1 ⟨rfl, hb⟩; have hs : _ ≤ w1.heap.size := hb.size; (try simp at hs); obtain ⟨hc, hf, hl, hn, hm⟩ := behind hb))
    all_goals (go_wp2; have o_j0 : Own (w1) (w.heap.size + 1) 0 (.int .i64 0) := ownJ; obtain ⟨j0, f_j0⟩ := o_j0; have o_j1 : Own (w1) (w.heap.size + 1) 1 (.int .i64 0) := ownJ; obtain ⟨j1, f_j1⟩ := o_j1; exact bodyPost_ret (v := .agg #[.int .i64 (z).1, .int .i64 (z).2]) (by simp [results, Tryz.results19, go_sem, j0, j1]) rfl ⟨by rw [E.out], belB⟩)
  · have B := Lib.hid (bnd_no h)
    have E := Lib.hid (mon_no (f := sinhF) h)
    clear h
    generalize monI (sinhF) x = Y at *
    go_enter Tryz.func19, Tryz.ntmps19
    go_wp2_with fail
    refine (C.out _).mono ?_
    rintro e w1 ⟨rfl, hb1⟩
    have hs1 : _ ≤ w1.heap.size := hb1.size
    try simp at hs1
    rw [B.out]
    have o_r10 : Own (w1) (w.heap.size + 1) 0 (.int .i64 0) := ownJ; have r10 := o_r10.1; have f_r10 := o_r10.2; have o_r11 : Own (w1) (w.heap.size + 1) 1 (.int .i64 0) := ownJ; have r11 := o_r11.1; have f_r11 := o_r11.2
    go_wp2_with fail
    refine (l04Whole_any _).mono ?_
    rintro e w2 ⟨rfl, hb2⟩
    have hs2 : _ ≤ w2.heap.size := hb2.size
    try simp at hs2
    have o_q20 : Own (w2) (w.heap.size + 1) 0 (.int .i64 0) := ownJ; obtain ⟨q20, f_q20⟩ := o_q20; have o_q21 : Own (w2) (w.heap.size + 1) 1 (.int .i64 0) := ownJ; obtain ⟨q21, f_q21⟩ := o_q21
    go_wp2
    exact bodyPost_ret (v := .agg #[.int .i64 (-1152921504606846976), .int .i64 1152921504606846976]) (by simp [results, Tryz.results19, go_sem, q20, q21]) rfl ⟨(by first | (rw [E.out]; done) | (rw [E.out]; rfl) | (simp [E.out]; done)), belB⟩
theorem sCoshI_any (x : Iv) (hx : Ok x) (w : World) : Calls Tryz.prog 21 #[.agg #[.int .i64 x.1, .int .i64 x.2]] w fun e w' =>
    e = .returned (.agg #[.int .i64 (monI coshF (absI x)).1, .int .i64 (monI coshF (absI x)).2]) ∧ Below w.heap.size w w' := by
  have C := Lib.hid (fun w => l04Ok_any x w)
  by_cases h : Bnd x
  · have B := Lib.hid (bnd_yes h)
    have ba : Bnd (absI x) := by rw [absI_yes h]; exact (abs_ends h).1
    have f1 : FixN (absI x).1 := by unfold Bnd at ba; unfold FixN; omega
    have f2 : FixN (absI x).2 := by unfold Bnd at ba; unfold FixN; omega
    have E := Lib.hid (mon_yes (f := coshF) ba)
    have A0 := Lib.hid (fun w => sAbsI_any x w)
    generalize absI x = y at *
    have A1 := Lib.hid (fun w => l08Cosh_any y.1 f1 w)
    have A2 := Lib.hid (fun w => l08Cosh_any y.2 f2 w)
    have M := Lib.hid (fun w => l08Ends_any (coshF y.1) (coshF y.2) w)
    clear h f1 f2 ba
    generalize monI coshF y = Y at *
    generalize kn (bnd (coshF y.1) && bnd (coshF y.2)) ((coshF y.1).1, (coshF y.2).2) = z at *
    generalize coshF y.1 = a1 at *
    generalize coshF y.2 = a2 at *
    go_enter Tryz.func21, Tryz.ntmps21
    go_wp2_with fail
    refine (C.out _).mono ?_
    rintro e w1 ⟨rfl, hb1⟩
    have hs1 : _ ≤ w1.heap.size := hb1.size
    try simp at hs1
    rw [B.out]
    have o_x10 : Own (w1) (w.heap.size) 0 (.int .i64 x.1) := ownJ; have x10 := o_x10.1; have f_x10 := o_x10.2; have o_x11 : Own (w1) (w.heap.size) 1 (.int .i64 x.2) := ownJ; have x11 := o_x11.1; have f_x11 := o_x11.2
    have o_r10 : Own (w1) (w.heap.size + 1) 0 (.int .i64 0) := ownJ; have r10 := o_r10.1; have f_r10 := o_r10.2; have o_r11 : Own (w1) (w.heap.size + 1) 1 (.int .i64 0) := ownJ; have r11 := o_r11.1; have f_r11 := o_r11.2
    go_wp2_with fail
    refine (A0.out _).mono ?_
    rintro e w2 ⟨rfl, hb2⟩
    have hs2 : _ ≤ w2.heap.size := hb2.size
    try simp at hs2
    have o_r20 : Own (w2) (w.heap.size + 1) 0 (.int .i64 0) := ownJ; have r20 := o_r20.1; have f_r20 := o_r20.2; have o_r21 : Own (w2) (w.heap.size + 1) 1 (.int .i64 0) := ownJ; have r21 := o_r21.1; have f_r21 := o_r21.2
    have zz2 : w.heap.size + 1 < w2.heap.size := World.block_lt_of_cell? _ _ r20; obtain ⟨zz2a, zz2b, zz2c, zz2d, zz2e, zz2f, zz2g, zz2h, zz2i⟩ := below_more zz2; have zn2 : ¬ w.heap.size + 1 = w2.heap.size := Nat.ne_of_lt zz2; have zm2 : ¬ w2.heap.size = w.heap.size + 1 := Nat.ne_of_gt zz2
    go_wp2_with fail
    have z0 := pslot_of (w := (w2.alloc (.cells #[.int .i64 y.1, .int .i64 y.2] 23))) (a := ⟨w.heap.size + 1, 0, none⟩) (v := .int .i64 0) (own_alloc o_r20).1 (own_alloc o_r20).2
    have z1 := pslot_of (w := (w2.alloc (.cells #[.int .i64 y.1, .int .i64 y.2] 23))) (a := ⟨w.heap.size + 1, 1, none⟩) (v := .int .i64 0) (own_alloc o_r21).1 (own_alloc o_r21).2
    obtain ⟨hlt2, hlt3, hlt4, hlt5, hlt6, hlt7, hlt8, hlt9, hlt10, hlt11⟩ := below_add; go_region_held3 (fun w' => w'.cell? ⟨w2.heap.size, 0, none⟩ = some (.int .i64 y.1) ∧ w'.cell? ⟨w2.heap.size, 1, none⟩ = some (.int .i64 y.2) ∧ (w'.cell? ⟨w.heap.size + 1, 0, none⟩ = some (peek w' ⟨w.heap.size + 1, 0, none⟩) ∧ w'.frozen? ⟨w.heap.size + 1, 0, none⟩ = false) ∧ (w'.cell? ⟨w.heap.size + 1, 1, none⟩ = some (peek w' ⟨w.heap.size + 1, 1, none⟩) ∧ w'.frozen? ⟨w.heap.size + 1, 1, none⟩ = false)) (first | (with_reducible exact ((And.imp (cell_kept (by assumption)) (And.imp (cell_kept (by assumption)) (And.imp (pslot_kept (by assumption)) (pslot_kept (by assumption))))) (by assumption))) | (with_reducible exact ((And.imp (cell_alloc) (And.imp (cell_alloc) (And.imp (pslot_alloc) (pslot_alloc)))) (by assumption))) | (with_reducible exact ((And.imp (fun h => cell_far (by first | (simp; done) | (simp; omega) | (dsimp only; omega)) (cell_far (by first | (simp; done) | (simp; omega) | (dsimp only; omega)) h)) (And.imp (fun h => cell_far (by first | (simp; done) | (simp; omega) | (dsimp only; omega)) (cell_far (by first | (simp; done) | (simp; omega) | (dsimp only; omega)) h)) (And.imp (fun h => pslot_set (pslot_set h)) (fun h => pslot_set (pslot_set h))))) (by assumption))) | (refine ⟨?_, ?_, ?_, ?_⟩ <;> repeat (first | (with_reducible assumption) | (with_reducible refine cell_far (by first | (simp; done) | (simp; omega) | (dsimp only; omega)) ?_) | (with_reducible refine cell_drew ?_) | (with_reducible refine cell_drewN ?_) | (with_reducible refine cell_kept (by assumption) ?_) | (with_reducible exact pslot_of (by assumption) (by assumption)) | (with_reducible refine pslot_drew ?_) | (with_reducible refine pslot_kept (by assumption) ?_) | (with_reducible refine pslot_alloc ?_) | (simp [go_sem]; done) | (with_reducible refine cell_alloc ?_))) | (simp [go_sem, *]; done)) (first | (go_at_call 61; with_reducible refine (A1.out _).mono ?_; rintro e w1 ⟨rfl, hb⟩; have hs : _ ≤ w1.heap.size := hb.size; (try simp at hs); obtain ⟨hc, hf, hl, hn, hm⟩ := behind hb) | (go_at_call 61; with_reducible refine (A2.out _).mono ?_; rintro e w1 ⟨rfl, hb⟩; have hs : _ ≤ w1.heap.size := hb.size; (try simp at hs); obtain ⟨hc, hf, hl, hn, hm⟩ := behind hb) | (go_at_call 53; refine (M.out _).mono ?_; rintro e w1 ⟨rfl, hb⟩; have hs : _ ≤ w1.heap.size := hb.size; (try simp at hs); obtain ⟨hc, hf, hl, hn, hm⟩ := behind hb))
    all_goals (go_wp2; have o_j0 : Own (w1) (w.heap.size + 1) 0 (.int .i64 0) := ownJ; obtain ⟨j0, f_j0⟩ := o_j0; have o_j1 : Own (w1) (w.heap.size + 1) 1 (.int .i64 0) := ownJ; obtain ⟨j1, f_j1⟩ := o_j1; exact bodyPost_ret (v := .agg #[.int .i64 (z).1, .int .i64 (z).2]) (by simp [results, Tryz.results21, go_sem, j0, j1]) rfl ⟨by rw [E.out], belB⟩)
  · have B := Lib.hid (bnd_no h)
    have E := Lib.hid (show monI coshF (absI x) = whl by rw [absI_no h]; exact mon_no whl_not)
    clear h
    generalize monI coshF (absI x) = Y at *
    go_enter Tryz.func21, Tryz.ntmps21
    go_wp2_with fail
    refine (C.out _).mono ?_
    rintro e w1 ⟨rfl, hb1⟩
    have hs1 : _ ≤ w1.heap.size := hb1.size
    try simp at hs1
    rw [B.out]
    have o_r10 : Own (w1) (w.heap.size + 1) 0 (.int .i64 0) := ownJ; have r10 := o_r10.1; have f_r10 := o_r10.2; have o_r11 : Own (w1) (w.heap.size + 1) 1 (.int .i64 0) := ownJ; have r11 := o_r11.1; have f_r11 := o_r11.2
    go_wp2_with fail
    refine (l04Whole_any _).mono ?_
    rintro e w2 ⟨rfl, hb2⟩
    have hs2 : _ ≤ w2.heap.size := hb2.size
    try simp at hs2
    have o_q20 : Own (w2) (w.heap.size + 1) 0 (.int .i64 0) := ownJ; obtain ⟨q20, f_q20⟩ := o_q20; have o_q21 : Own (w2) (w.heap.size + 1) 1 (.int .i64 0) := ownJ; obtain ⟨q21, f_q21⟩ := o_q21
    go_wp2
    exact bodyPost_ret (v := .agg #[.int .i64 (-1152921504606846976), .int .i64 1152921504606846976]) (by simp [results, Tryz.results21, go_sem, q20, q21]) rfl ⟨(by first | (rw [E.out]; done) | (rw [E.out]; rfl) | (simp [E.out]; done)), belB⟩
theorem l08Tanh_pos (n : Int) (h : FixN n) (p : 0 ≤ n) (w : World) : Calls Tryz.prog 64 #[.int .i64 n] w fun e w' =>
    e = .returned (.agg #[.int .i64 (tanhP n).1, .int .i64 (tanhP n).2]) ∧ Below w.heap.size w w' := by
  obtain ⟨n0, n1⟩ := id h
  have s0 : decide (n < 0) = false := decide_eq_false (by omega)
  by_cases c : 51539607552 < n
  · have E := Lib.hid (show tanhP n = (4294967295, 4294967296) from if_pos c)
    have c0 : decide (51539607552 < n) = true := decide_eq_true c
    clear c h
    generalize tanhP n = Y at *
    go_enter Tryz.func64, Tryz.ntmps64
    go_wp2
    exact bodyPost_ret (v := .agg #[.int .i64 4294967295, .int .i64 4294967296]) (by simp [results, Tryz.results64, go_sem, E.out]) rfl ⟨(by first | (rw [E.out]; done) | (rw [E.out]; rfl) | (simp [E.out]; done)), belB⟩
  · have E := Lib.hid (show tanhP n = divI (subI (intI 1) (expF (-2 * n))) (addI (intI 1) (expF (-2 * n))) from if_neg c)
    have c0 : decide (51539607552 < n) = false := decide_eq_false c
    have WN : IntKind.i64.wrap (-2 * n) = -2 * n := wrapS (by unfold In64; omega)
    have X := Lib.hid (fun w => sExpAt_any (-2 * n) w)
    have I1 := Lib.hid (fun w => l08One_any w)
    have S := Lib.hid (fun w => sSubI_any (intI 1) (expF (-2 * n)) w)
    have A := Lib.hid (fun w => sAddI_any (intI 1) (expF (-2 * n)) w)
    have D := Lib.hid (fun w => sDivI_any (subI (intI 1) (expF (-2 * n))) (addI (intI 1) (expF (-2 * n))) w)
    clear c h
    generalize tanhP n = Y at *
    generalize divI (subI (intI 1) (expF (-2 * n))) (addI (intI 1) (expF (-2 * n))) = z at *
    generalize subI (intI 1) (expF (-2 * n)) = s at *
    generalize addI (intI 1) (expF (-2 * n)) = a at *
    generalize expF (-2 * n) = t at *
    generalize intI 1 = i1 at *
    go_enter Tryz.func64, Tryz.ntmps64
    go_wp2_with fail
    refine (X.out _).mono ?_
    rintro e w1 ⟨rfl, hb1⟩
    have hs1 : _ ≤ w1.heap.size := hb1.size
    try simp at hs1
    have o_q10 : Own (w1) (w.heap.size) 0 (.int .i64 0) := ownJ; have q10 := o_q10.1; have f_q10 := o_q10.2; have o_q11 : Own (w1) (w.heap.size) 1 (.int .i64 0) := ownJ; have q11 := o_q11.1; have f_q11 := o_q11.2
    have zz1 : w.heap.size < w1.heap.size := World.block_lt_of_cell? _ _ q10; obtain ⟨zz1a, zz1b, zz1c, zz1d, zz1e, zz1f, zz1g, zz1h, zz1i⟩ := below_more zz1; have zn1 : ¬ w.heap.size = w1.heap.size := Nat.ne_of_lt zz1; have zm1 : ¬ w1.heap.size = w.heap.size := Nat.ne_of_gt zz1
    go_wp2_with fail
    have z0 := pslot_of (w := (w1.alloc (.cells #[.int .i64 t.1, .int .i64 t.2] 23))) (a := ⟨w.heap.size, 0, none⟩) (v := .int .i64 0) (own_alloc o_q10).1 (own_alloc o_q10).2
    have z1 := pslot_of (w := (w1.alloc (.cells #[.int .i64 t.1, .int .i64 t.2] 23))) (a := ⟨w.heap.size, 1, none⟩) (v := .int .i64 0) (own_alloc o_q11).1 (own_alloc o_q11).2
    obtain ⟨hlt2, hlt3, hlt4, hlt5, hlt6, hlt7, hlt8, hlt9, hlt10, hlt11⟩ := below_add; go_region_held3 (fun w' => w'.cell? ⟨w1.heap.size, 0, none⟩ = some (.int .i64 t.1) ∧ w'.cell? ⟨w1.heap.size, 1, none⟩ = some (.int .i64 t.2) ∧ (w'.cell? ⟨w.heap.size, 0, none⟩ = some (peek w' ⟨w.heap.size, 0, none⟩) ∧ w'.frozen? ⟨w.heap.size, 0, none⟩ = false) ∧ (w'.cell? ⟨w.heap.size, 1, none⟩ = some (peek w' ⟨w.heap.size, 1, none⟩) ∧ w'.frozen? ⟨w.heap.size, 1, none⟩ = false)) (first | (with_reducible exact ((And.imp (cell_kept (by assumption)) (And.imp (cell_kept (by assumption)) (And.imp (pslot_kept (by assumption)) (pslot_kept (by assumption))))) (by assumption))) | (with_reducible exact ((And.imp (cell_alloc) (And.imp (cell_alloc) (And.imp (pslot_alloc) (pslot_alloc)))) (by assumption))) | (with_reducible exact ((And.imp (fun h => cell_far (by first | (simp; done) | (simp; omega) | (dsimp only; omega)) (cell_far (by first | (simp; done) | (simp; omega) | (dsimp only; omega)) h)) (And.imp (fun h => cell_far (by first | (simp; done) | (simp; omega) | (dsimp only; omega)) (cell_far (by first | (simp; done) | (simp; omega) | (dsimp only; omega)) h)) (And.imp (fun h => pslot_set (pslot_set h)) (fun h => pslot_set (pslot_set h))))) (by assumption))) | (refine ⟨?_, ?_, ?_, ?_⟩ <;> repeat (first | (with_reducible assumption) | (with_reducible refine cell_far (by first | (simp; done) | (simp; omega) | (dsimp only; omega)) ?_) | (with_reducible refine cell_drew ?_) | (with_reducible refine cell_drewN ?_) | (with_reducible refine cell_kept (by assumption) ?_) | (with_reducible exact pslot_of (by assumption) (by assumption)) | (with_reducible refine pslot_drew ?_) | (with_reducible refine pslot_kept (by assumption) ?_) | (with_reducible refine pslot_alloc ?_) | (simp [go_sem]; done) | (with_reducible refine cell_alloc ?_))) | (simp [go_sem, *]; done)) (first | (go_at_call 33; refine (I1.out _).mono ?_; rintro e w1 ⟨rfl, hb⟩; have hs : _ ≤ w1.heap.size := hb.size; (try simp at hs); obtain ⟨hc, hf, hl, hn, hm⟩ := behind hb) | (go_at_call 32; refine (S.out _).mono ?_; rintro e w1 ⟨rfl, hb⟩; have hs : _ ≤ w1.heap.size := hb.size; (try simp at hs); obtain ⟨hc, hf, hl, hn, hm⟩ := behind hb) | (go_at_call 34; refine (A.out _).mono ?_; rintro e w1 ⟨rfl, hb⟩; have hs : _ ≤ w1.heap.size := hb.size; (try simp at hs); obtain ⟨hc, hf, hl, hn, hm⟩ := behind hb) | (go_at_call 31; refine (D.out _).mono ?_; rintro e w1 ⟨rfl, hb⟩; have hs : _ ≤ w1.heap.size := hb.size; (try simp at hs); obtain ⟨hc, hf, hl, hn, hm⟩ := behind hb))
    all_goals (go_wp2; have o_j0 : Own (w1) (w.heap.size) 0 (.int .i64 0) := ownJ; obtain ⟨j0, f_j0⟩ := o_j0; have o_j1 : Own (w1) (w.heap.size) 1 (.int .i64 0) := ownJ; obtain ⟨j1, f_j1⟩ := o_j1; exact bodyPost_ret (v := .agg #[.int .i64 (z).1, .int .i64 (z).2]) (by simp [results, Tryz.results64, go_sem, j0, j1]) rfl ⟨by rw [E.out], belB⟩)
theorem l08Tanh_neg (n : Int) (h : FixN n) (s : n < 0) (w : World) : Calls Tryz.prog 64 #[.int .i64 n] w fun e w' =>
    e = .returned (.agg #[.int .i64 (oddF tanhP n).1, .int .i64 (oddF tanhP n).2]) ∧ Below w.heap.size w w' := by
  obtain ⟨n0, n1⟩ := id h
  have WN : IntKind.i64.wrap (-n) = -n := wrapS (by unfold In64; omega)
  have s0 : decide (n < 0) = true := decide_eq_true s
  have A := Lib.hid (fun w => l08Tanh_pos (-n) (by unfold FixN; omega) (by omega) w)
  have N := Lib.hid (fun w => sNegI_any (tanhP (-n)) w)
  have E := Lib.hid (show oddF tanhP n = negI (tanhP (-n)) from if_pos s)
  clear h
  generalize oddF tanhP n = Y at *
  generalize negI (tanhP (-n)) = z at *
  generalize tanhP (-n) = a at *
  go_enter Tryz.func64, Tryz.ntmps64
  go_wp2_with fail
  refine (A.out _).mono ?_
  rintro e w1 ⟨rfl, hb1⟩
  have hs1 : _ ≤ w1.heap.size := hb1.size
  try simp at hs1
  have o_q10 : Own (w1) (w.heap.size) 0 (.int .i64 0) := ownJ; have q10 := o_q10.1; have f_q10 := o_q10.2; have o_q11 : Own (w1) (w.heap.size) 1 (.int .i64 0) := ownJ; have q11 := o_q11.1; have f_q11 := o_q11.2
  go_wp2_with fail
  refine (N.out _).mono ?_
  rintro e w2 ⟨rfl, hb2⟩
  have hs2 : _ ≤ w2.heap.size := hb2.size
  try simp at hs2
  have o_q20 : Own (w2) (w.heap.size) 0 (.int .i64 0) := ownJ; obtain ⟨q20, f_q20⟩ := o_q20; have o_q21 : Own (w2) (w.heap.size) 1 (.int .i64 0) := ownJ; obtain ⟨q21, f_q21⟩ := o_q21
  go_wp2
  exact bodyPost_ret (v := .agg #[.int .i64 (z).1, .int .i64 (z).2]) (by simp [results, Tryz.results64, go_sem, q20, q21]) rfl ⟨by rw [E.out], belB⟩
theorem l08Tanh_any (n : Int) (h : FixN n) (w : World) : Calls Tryz.prog 64 #[.int .i64 n] w fun e w' =>
    e = .returned (.agg #[.int .i64 (oddF tanhP n).1, .int .i64 (oddF tanhP n).2]) ∧ Below w.heap.size w w' := by
  by_cases s : n < 0
  · exact l08Tanh_neg n h s w
  · rw [show oddF tanhP n = tanhP n from if_neg s]
    exact l08Tanh_pos n h (by omega) w
theorem sTanhI_any (x : Iv) (hx : Ok x) (w : World) : Calls Tryz.prog 23 #[.agg #[.int .i64 x.1, .int .i64 x.2]] w fun e w' =>
    e = .returned (.agg #[.int .i64 (monI (oddF tanhP) x).1, .int .i64 (monI (oddF tanhP) x).2]) ∧ Below w.heap.size w w' := by
  have C := Lib.hid (fun w => l04Ok_any x w)
  by_cases h : Bnd x
  · have B := Lib.hid (bnd_yes h)
    have f1 : FixN x.1 := by unfold Bnd at h; unfold FixN; omega
    have f2 : FixN x.2 := by unfold Bnd at h; unfold FixN; omega
    have E := Lib.hid (mon_yes (f := oddF tanhP) h)
    have A1 := Lib.hid (fun w => l08Tanh_any x.1 f1 w)
    have A2 := Lib.hid (fun w => l08Tanh_any x.2 f2 w)
    have M := Lib.hid (fun w => l08Ends_any (oddF tanhP x.1) (oddF tanhP x.2) w)
    clear h f1 f2
    generalize monI (oddF tanhP) x = Y at *
    generalize kn (bnd (oddF tanhP x.1) && bnd (oddF tanhP x.2)) ((oddF tanhP x.1).1, (oddF tanhP x.2).2) = z at *
    generalize oddF tanhP x.1 = a1 at *
    generalize oddF tanhP x.2 = a2 at *
    go_enter Tryz.func23, Tryz.ntmps23
    go_wp2_with fail
    refine (C.out _).mono ?_
    rintro e w1 ⟨rfl, hb1⟩
    have hs1 : _ ≤ w1.heap.size := hb1.size
    try simp at hs1
    rw [B.out]
    have o_x10 : Own (w1) (w.heap.size) 0 (.int .i64 x.1) := ownJ; have x10 := o_x10.1; have f_x10 := o_x10.2; have o_x11 : Own (w1) (w.heap.size) 1 (.int .i64 x.2) := ownJ; have x11 := o_x11.1; have f_x11 := o_x11.2
    have o_r10 : Own (w1) (w.heap.size + 1) 0 (.int .i64 0) := ownJ; have r10 := o_r10.1; have f_r10 := o_r10.2; have o_r11 : Own (w1) (w.heap.size + 1) 1 (.int .i64 0) := ownJ; have r11 := o_r11.1; have f_r11 := o_r11.2
    have zz1 : w.heap.size < w1.heap.size := World.block_lt_of_cell? _ _ x10; obtain ⟨zz1a, zz1b, zz1c, zz1d, zz1e, zz1f, zz1g, zz1h, zz1i⟩ := below_more zz1; have zn1 : ¬ w.heap.size = w1.heap.size := Nat.ne_of_lt zz1; have zm1 : ¬ w1.heap.size = w.heap.size := Nat.ne_of_gt zz1
    have zz2 : w.heap.size + 1 < w1.heap.size := World.block_lt_of_cell? _ _ r10; obtain ⟨zz2a, zz2b, zz2c, zz2d, zz2e, zz2f, zz2g, zz2h, zz2i⟩ := below_more zz2; have zn2 : ¬ w.heap.size + 1 = w1.heap.size := Nat.ne_of_lt zz2; have zm2 : ¬ w1.heap.size = w.heap.size + 1 := Nat.ne_of_gt zz2
    go_wp2_with fail
    have z0 := pslot_of (w := w1) (a := ⟨w.heap.size + 1, 0, none⟩) (v := .int .i64 0) o_r10.1 o_r10.2
    have z1 := pslot_of (w := w1) (a := ⟨w.heap.size + 1, 1, none⟩) (v := .int .i64 0) o_r11.1 o_r11.2
    obtain ⟨hlt2, hlt3, hlt4, hlt5, hlt6, hlt7, hlt8, hlt9, hlt10, hlt11⟩ := below_add; go_region_held3 (fun w' => w'.cell? ⟨w.heap.size, 0, none⟩ = some (.int .i64 x.1) ∧ w'.cell? ⟨w.heap.size, 1, none⟩ = some (.int .i64 x.2) ∧ (w'.cell? ⟨w.heap.size + 1, 0, none⟩ = some (peek w' ⟨w.heap.size + 1, 0, none⟩) ∧ w'.frozen? ⟨w.heap.size + 1, 0, none⟩ = false) ∧ (w'.cell? ⟨w.heap.size + 1, 1, none⟩ = some (peek w' ⟨w.heap.size + 1, 1, none⟩) ∧ w'.frozen? ⟨w.heap.size + 1, 1, none⟩ = false)) (first | (with_reducible exact ((And.imp (cell_kept (by assumption)) (And.imp (cell_kept (by assumption)) (And.imp (pslot_kept (by assumption)) (pslot_kept (by assumption))))) (by assumption))) | (with_reducible exact ((And.imp (cell_alloc) (And.imp (cell_alloc) (And.imp (pslot_alloc) (pslot_alloc)))) (by assumption))) | (with_reducible exact ((And.imp (fun h => cell_far (by first | (simp; done) | (simp; omega) | (dsimp only; omega)) (cell_far (by first | (simp; done) | (simp; omega) | (dsimp only; omega)) h)) (And.imp (fun h => cell_far (by first | (simp; done) | (simp; omega) | (dsimp only; omega)) (cell_far (by first | (simp; done) | (simp; omega) | (dsimp only; omega)) h)) (And.imp (fun h => pslot_set (pslot_set h)) (fun h => pslot_set (pslot_set h))))) (by assumption))) | (refine ⟨?_, ?_, ?_, ?_⟩ <;> repeat (first | (with_reducible assumption) | (with_reducible refine cell_far (by first | (simp; done) | (simp; omega) | (dsimp only; omega)) ?_) | (with_reducible refine cell_drew ?_) | (with_reducible refine cell_drewN ?_) | (with_reducible refine cell_kept (by assumption) ?_) | (with_reducible exact pslot_of (by assumption) (by assumption)) | (with_reducible refine pslot_drew ?_) | (with_reducible refine pslot_kept (by assumption) ?_) | (with_reducible refine pslot_alloc ?_) | (simp [go_sem]; done) | (with_reducible refine cell_alloc ?_))) | (simp [go_sem, *]; done)) (first | (go_at_call 64; with_reducible refine (A1.out _).mono ?_; rintro e w1 ⟨rfl, hb⟩; have hs : _ ≤ w1.heap.size := hb.size; (try simp at hs); obtain ⟨hc, hf, hl, hn, hm⟩ := behind hb) | (go_at_call 64; with_reducible refine (A2.out _).mono ?_; rintro e w1 ⟨rfl, hb⟩; have hs : _ ≤ w1.heap.size := hb.size; (try simp at hs); obtain ⟨hc, hf, hl, hn, hm⟩ := behind hb) | (go_at_call 53; refine (M.out _).mono ?_; rintro e w1 ⟨rfl, hb⟩; have hs : _ ≤ w1.heap.size := hb.size; (try simp at hs); obtain ⟨hc, hf, hl, hn, hm⟩ := behind hb))
    all_goals (go_wp2; have o_j0 : Own (w1) (w.heap.size + 1) 0 (.int .i64 0) := ownJ; obtain ⟨j0, f_j0⟩ := o_j0; have o_j1 : Own (w1) (w.heap.size + 1) 1 (.int .i64 0) := ownJ; obtain ⟨j1, f_j1⟩ := o_j1; exact bodyPost_ret (v := .agg #[.int .i64 (z).1, .int .i64 (z).2]) (by simp [results, Tryz.results23, go_sem, j0, j1]) rfl ⟨by rw [E.out], belB⟩)
  · have B := Lib.hid (bnd_no h)
    have E := Lib.hid (mon_no (f := oddF tanhP) h)
    clear h
    generalize monI (oddF tanhP) x = Y at *
    go_enter Tryz.func23, Tryz.ntmps23
    go_wp2_with fail
    refine (C.out _).mono ?_
    rintro e w1 ⟨rfl, hb1⟩
    have hs1 : _ ≤ w1.heap.size := hb1.size
    try simp at hs1
    rw [B.out]
    have o_r10 : Own (w1) (w.heap.size + 1) 0 (.int .i64 0) := ownJ; have r10 := o_r10.1; have f_r10 := o_r10.2; have o_r11 : Own (w1) (w.heap.size + 1) 1 (.int .i64 0) := ownJ; have r11 := o_r11.1; have f_r11 := o_r11.2
    go_wp2_with fail
    refine (l04Whole_any _).mono ?_
    rintro e w2 ⟨rfl, hb2⟩
    have hs2 : _ ≤ w2.heap.size := hb2.size
    try simp at hs2
    have o_q20 : Own (w2) (w.heap.size + 1) 0 (.int .i64 0) := ownJ; obtain ⟨q20, f_q20⟩ := o_q20; have o_q21 : Own (w2) (w.heap.size + 1) 1 (.int .i64 0) := ownJ; obtain ⟨q21, f_q21⟩ := o_q21
    go_wp2
    exact bodyPost_ret (v := .agg #[.int .i64 (-1152921504606846976), .int .i64 1152921504606846976]) (by simp [results, Tryz.results23, go_sem, q20, q21]) rfl ⟨(by first | (rw [E.out]; done) | (rw [E.out]; rfl) | (simp [E.out]; done)), belB⟩
end Go.Proofs.YtnnanbaldcjfiaaGreatDoor
