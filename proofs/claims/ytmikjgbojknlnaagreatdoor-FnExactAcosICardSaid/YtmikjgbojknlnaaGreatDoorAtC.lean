/- Contracts of the half circle, of the tangent of half an arc and of arcs of tangents from 0 to 1, program and model. Conditions: numbers are int64; the program's two intervals are laid. -/
import Derived.Test.YtmikjgbojknlnaaGreatDoorNumX
import Derived.Test.YtmikjgbojknlnaaGreatDoorAtA
import Derived.Test.YtmikjgbojknlnaaGreatDoorTrA
import Derived.Test.YtmikjgbojknlnaaGreatDoorAtZ
import Derived.Test.YtmikjgbojknlnaaGreatDoorIvE
import Derived.Test.YtmikjgbojknlnaaGreatDoorIvF
import Derived.Test.YtmikjgbojknlnaaGreatDoorIvD
import Derived.Test.YtmikjgbojknlnaaGreatDoorIvM
import Derived.Test.YtmikjgbojknlnaaGreatDoorIvN
import Derived.Test.YtmikjgbojknlnaaGreatDoorIvV
import Derived.Test.YtmikjgbojknlnaaGreatDoorIvW
import Derived.Test.YtmikjgbojknlnaaGreatDoorIvX
import Derived.Test.YtmikjgbojknlnaaGreatDoorIvU
import Derived.Test.YtmikjgbojknlnaaGreatDoorIvLd
import Derived.Deep.RegionHeld3
import Derived.Outline
namespace Go.Proofs.YtmikjgbojknlnaaGreatDoor
open Go.ChangeShapes Go.WideShapes Go.ChangeAt Go.RowKit
set_option linter.unusedVariables false
set_option maxRecDepth 100000
set_option linter.unusedSimpArgs false
set_option maxHeartbeats 1000000
theorem halfCircle_any (w : World) : Calls Tryz.prog 78 #[] w fun e w' =>
    e = .returned (.agg #[.int .i64 (-6746518853), .int .i64 6746518853]) ∧ Below w.heap.size w w' := by
  have hfd : ∀ (a b : Value) (w : World), (Instr.field 26 (.agg #[a, b]) 1).run Tryz.prog w = .ok b w := fun _ _ _ => by kernel_rfl
  have T := Lib.hid (fun w => TurnI_any 1 w)
  simp only [turI_one] at T
  go_enter Tryz.func78, Tryz.ntmps78
  go_wp2_with fail
  refine (T.out _).mono ?_
  rintro e w1 ⟨rfl, hb1⟩
  have hs1 : _ ≤ w1.heap.size := hb1.size
  try simp at hs1
  have o_q10 : Own (w1) (w.heap.size) 0 (.int .i64 0) := ownJ; have q10 := o_q10.1; have f_q10 := o_q10.2; have o_q11 : Own (w1) (w.heap.size) 1 (.int .i64 0) := ownJ; have q11 := o_q11.1; have f_q11 := o_q11.2
  have zz1 : w.heap.size < w1.heap.size := World.block_lt_of_cell? _ _ q10; obtain ⟨zz1a, zz1b, zz1c, zz1d, zz1e, zz1f, zz1g, zz1h, zz1i⟩ := below_more zz1; have zn1 : ¬ w.heap.size = w1.heap.size := Nat.ne_of_lt zz1; have zm1 : ¬ w1.heap.size = w.heap.size := Nat.ne_of_gt zz1
  go_wp2
  exact bodyPost_ret (v := .agg #[.int .i64 (-6746518853), .int .i64 6746518853]) (by simp [results, Tryz.results78, go_sem, q10, q11, zz1, zm1, zn1]) rfl ⟨rfl, belB⟩
theorem l07Quarter_any (w : World) : Calls Tryz.prog 68 #[] w fun e w' =>
    e = .returned (.agg #[.int .i64 (-6746518853), .int .i64 6746518853]) ∧ Below w.heap.size w w' := by
  have hfd : ∀ (a b : Value) (w : World), (Instr.field 26 (.agg #[a, b]) 1).run Tryz.prog w = .ok b w := fun _ _ _ => by kernel_rfl
  have T := Lib.hid (fun w => l05Turn_any 1 (by omega) (by omega) w)
  simp only [show turM 1 = (6746518852, 6746518853) from by decide] at T
  go_enter Tryz.func68, Tryz.ntmps68
  go_wp2_with fail
  refine (T.out _).mono ?_
  rintro e w1 ⟨rfl, hb1⟩
  have hs1 : _ ≤ w1.heap.size := hb1.size
  try simp at hs1
  have o_q10 : Own (w1) (w.heap.size) 0 (.int .i64 0) := ownJ; have q10 := o_q10.1; have f_q10 := o_q10.2; have o_q11 : Own (w1) (w.heap.size) 1 (.int .i64 0) := ownJ; have q11 := o_q11.1; have f_q11 := o_q11.2
  have zz1 : w.heap.size < w1.heap.size := World.block_lt_of_cell? _ _ q10; obtain ⟨zz1a, zz1b, zz1c, zz1d, zz1e, zz1f, zz1g, zz1h, zz1i⟩ := below_more zz1; have zn1 : ¬ w.heap.size = w1.heap.size := Nat.ne_of_lt zz1; have zm1 : ¬ w1.heap.size = w.heap.size := Nat.ne_of_gt zz1
  go_wp2_with fail
  refine (T.out _).mono ?_
  rintro e w2 ⟨rfl, hb2⟩
  have hs2 : _ ≤ w2.heap.size := hb2.size
  try simp at hs2
  have o_q20 : Own (w2) (w.heap.size) 0 (.int .i64 0) := ownJ; have q20 := o_q20.1; have f_q20 := o_q20.2; have o_q21 : Own (w2) (w.heap.size) 1 (.int .i64 0) := ownJ; have q21 := o_q21.1; have f_q21 := o_q21.2
  have zz2 : w.heap.size < w2.heap.size := World.block_lt_of_cell? _ _ q20; obtain ⟨zz2a, zz2b, zz2c, zz2d, zz2e, zz2f, zz2g, zz2h, zz2i⟩ := below_more zz2; have zn2 : ¬ w.heap.size = w2.heap.size := Nat.ne_of_lt zz2; have zm2 : ¬ w2.heap.size = w.heap.size := Nat.ne_of_gt zz2
  go_wp2
  exact bodyPost_ret (v := .agg #[.int .i64 (-6746518853), .int .i64 6746518853]) (by simp [results, Tryz.results68, go_sem, q20, q21, zz2, zm2, zn2]) rfl ⟨rfl, belB⟩
theorem l07Fix_yes (n : Int) (h : FixN n) (w : World) : Calls Tryz.prog 86 #[.int .i64 n] w fun e w' =>
    e = .returned (.bool true) ∧ Below w.heap.size w w' := by
  have a : decide (-1152921504606846976 < n) = true := decide_eq_true h.1
  have b : decide (n < 1152921504606846976) = true := decide_eq_true h.2
  clear h
  go_enter Tryz.func86, Tryz.ntmps86
  go_wp2
  go_ret
  exact ⟨rfl, belB⟩
theorem l07Fix_no (n : Int) (h : ¬ FixN n) (w : World) : Calls Tryz.prog 86 #[.int .i64 n] w fun e w' =>
    e = .returned (.bool false) ∧ Below w.heap.size w w' := by
  by_cases a0 : -1152921504606846976 < n
  · have a : decide (-1152921504606846976 < n) = true := decide_eq_true a0
    have b : decide (n < 1152921504606846976) = false := decide_eq_false (fun k => h ⟨a0, k⟩)
    clear h a0
    go_enter Tryz.func86, Tryz.ntmps86
    go_wp2
    go_ret
    exact ⟨rfl, belB⟩
  · have a : decide (-1152921504606846976 < n) = false := decide_eq_false a0
    clear h a0
    go_enter Tryz.func86, Tryz.ntmps86
    go_wp2
    go_ret
    exact ⟨rfl, belB⟩
theorem halfTangent_any (x : Iv) (hx : Ok x) (w : World) : Calls Tryz.prog 144 #[.agg #[.int .i64 x.1, .int .i64 x.2]] w fun e w' =>
    e = .returned (.agg #[.int .i64 (hafT x).1, .int .i64 (hafT x).2]) ∧ Below w.heap.size w w' := by
  have I := Lib.hid (fun w => Integer_any 1 (by unfold In64; omega) w)
  have Q := Lib.hid (fun w => SqrI_any x w)
  have A1 := Lib.hid (fun w => AddI_any (intI 1) (sqrI x) w)
  have R := Lib.hid (fun w => SqrtI_any (addI (intI 1) (sqrI x)) (res_ok (add_res _ _)) w)
  have A2 := Lib.hid (fun w => AddI_any (intI 1) (sqrtI (addI (intI 1) (sqrI x))) w)
  have D := Lib.hid (fun w => DivI_any x (addI (intI 1) (sqrtI (addI (intI 1) (sqrI x)))) hx (res_ok (add_res _ _)) w)
  have E := Lib.hid (show hafT x = divI x (addI (intI 1) (sqrtI (addI (intI 1) (sqrI x)))) from rfl)
  generalize hafT x = Y at *
  generalize divI x (addI (intI 1) (sqrtI (addI (intI 1) (sqrI x)))) = d at *
  generalize addI (intI 1) (sqrtI (addI (intI 1) (sqrI x))) = a2 at *
  generalize sqrtI (addI (intI 1) (sqrI x)) = r at *
  generalize addI (intI 1) (sqrI x) = a1 at *
  generalize sqrI x = q at *
  generalize intI 1 = i at *
  go_enter Tryz.func144, Tryz.ntmps144
  go_wp2_with fail
  have z0 := pslot_of (w := ((w.alloc (.cells #[.int .i64 x.1, .int .i64 x.2] 26)).alloc (.cells #[.int .i64 0, .int .i64 0] 26))) (a := ⟨w.heap.size + 1, 0, none⟩) (v := .int .i64 0) (by simp [go_sem]) (by simp [go_sem])
  have z1 := pslot_of (w := ((w.alloc (.cells #[.int .i64 x.1, .int .i64 x.2] 26)).alloc (.cells #[.int .i64 0, .int .i64 0] 26))) (a := ⟨w.heap.size + 1, 1, none⟩) (v := .int .i64 0) (by simp [go_sem]) (by simp [go_sem])
  obtain ⟨hlt2, hlt3, hlt4, hlt5, hlt6, hlt7, hlt8, hlt9, hlt10, hlt11⟩ := below_add; go_region_held3 (fun w' => w'.cell? ⟨w.heap.size, 0, none⟩ = some (.int .i64 x.1) ∧ w'.cell? ⟨w.heap.size, 1, none⟩ = some (.int .i64 x.2) ∧ (w'.cell? ⟨w.heap.size + 1, 0, none⟩ = some (peek w' ⟨w.heap.size + 1, 0, none⟩) ∧ w'.frozen? ⟨w.heap.size + 1, 0, none⟩ = false) ∧ (w'.cell? ⟨w.heap.size + 1, 1, none⟩ = some (peek w' ⟨w.heap.size + 1, 1, none⟩) ∧ w'.frozen? ⟨w.heap.size + 1, 1, none⟩ = false)) (first | (with_reducible exact ((And.imp (cell_kept (by assumption)) (And.imp (cell_kept (by assumption)) (And.imp (pslot_kept (by assumption)) (pslot_kept (by assumption))))) (by assumption))) | (with_reducible exact ((And.imp (cell_alloc) (And.imp (cell_alloc) (And.imp (pslot_alloc) (pslot_alloc)))) (by assumption))) | (with_reducible exact ((And.imp (fun h => cell_far (by first | (simp; done) | (simp; omega)) (cell_far (by first | (simp; done) | (simp; omega)) h)) (And.imp (fun h => cell_far (by first | (simp; done) | (simp; omega)) (cell_far (by first | (simp; done) | (simp; omega)) h)) (And.imp (fun h => pslot_set (pslot_set h)) (fun h => pslot_set (pslot_set h))))) (by assumption))) | (refine ⟨?_, ?_, ?_, ?_⟩ <;> repeat (first | (with_reducible assumption) | (with_reducible refine cell_far (by first | (simp; done) | (simp; omega)) ?_) | (with_reducible refine cell_drew ?_) | (with_reducible refine cell_drewN ?_) | (with_reducible refine cell_kept (by assumption) ?_) | (with_reducible exact pslot_of (by assumption) (by assumption)) | (with_reducible refine pslot_drew ?_) | (with_reducible refine pslot_kept (by assumption) ?_) | (with_reducible refine pslot_alloc ?_) | (simp [go_sem]; done) | (with_reducible refine cell_alloc ?_))) | (simp [go_sem, *]; done)) (first | (go_at_call 74; refine (I.out _).mono ?_; rintro e w1 ⟨rfl, hb⟩; have hs : _ ≤ w1.heap.size := hb.size; (try simp at hs); obtain ⟨hc, hf, hl, hn, hm⟩ := behind hb) | (go_at_call 160; refine (Q.out _).mono ?_; rintro e w1 ⟨rfl, hb⟩; have hs : _ ≤ w1.heap.size := hb.size; (try simp at hs); obtain ⟨hc, hf, hl, hn, hm⟩ := behind hb) | (go_at_call 73; with_reducible refine (A1.out _).mono ?_; rintro e w1 ⟨rfl, hb⟩; have hs : _ ≤ w1.heap.size := hb.size; (try simp at hs); obtain ⟨hc, hf, hl, hn, hm⟩ := behind hb) | (go_at_call 73; with_reducible refine (A2.out _).mono ?_; rintro e w1 ⟨rfl, hb⟩; have hs : _ ≤ w1.heap.size := hb.size; (try simp at hs); obtain ⟨hc, hf, hl, hn, hm⟩ := behind hb) | (go_at_call 159; refine (R.out _).mono ?_; rintro e w1 ⟨rfl, hb⟩; have hs : _ ≤ w1.heap.size := hb.size; (try simp at hs); obtain ⟨hc, hf, hl, hn, hm⟩ := behind hb) | (go_at_call 71; refine (D.out _).mono ?_; rintro e w1 ⟨rfl, hb⟩; have hs : _ ≤ w1.heap.size := hb.size; (try simp at hs); obtain ⟨hc, hf, hl, hn, hm⟩ := behind hb))
  all_goals (go_wp2; have o_j0 : Own (w1) (w.heap.size + 1) 0 (.int .i64 0) := ownJ; obtain ⟨j0, f_j0⟩ := o_j0; have o_j1 : Own (w1) (w.heap.size + 1) 1 (.int .i64 0) := ownJ; obtain ⟨j1, f_j1⟩ := o_j1; exact bodyPost_ret (v := .agg #[.int .i64 (d).1, .int .i64 (d).2]) (by simp [results, Tryz.results144, go_sem, j0, j1]) rfl ⟨by rw [E.out], belB⟩)
theorem shalfTangent_any (x : Iv) (hx : Ok x) (w : World) : Calls Tryz.prog 142 #[.agg #[.int .i64 x.1, .int .i64 x.2]] w fun e w' =>
    e = .returned (.agg #[.int .i64 (hafT x).1, .int .i64 (hafT x).2]) ∧ Below w.heap.size w w' := by
  have I := Lib.hid (fun w => sInteger_any 1 (by unfold In64; omega) w)
  have Q := Lib.hid (fun w => sSqrI_any x w)
  have A1 := Lib.hid (fun w => sAddI_any (intI 1) (sqrI x) w)
  have R := Lib.hid (fun w => sSqrtI_any (addI (intI 1) (sqrI x)) w)
  have A2 := Lib.hid (fun w => sAddI_any (intI 1) (sqrtI (addI (intI 1) (sqrI x))) w)
  have D := Lib.hid (fun w => sDivI_any x (addI (intI 1) (sqrtI (addI (intI 1) (sqrI x)))) w)
  have E := Lib.hid (show hafT x = divI x (addI (intI 1) (sqrtI (addI (intI 1) (sqrI x)))) from rfl)
  generalize hafT x = Y at *
  generalize divI x (addI (intI 1) (sqrtI (addI (intI 1) (sqrI x)))) = d at *
  generalize addI (intI 1) (sqrtI (addI (intI 1) (sqrI x))) = a2 at *
  generalize sqrtI (addI (intI 1) (sqrI x)) = r at *
  generalize addI (intI 1) (sqrI x) = a1 at *
  generalize sqrI x = q at *
  generalize intI 1 = i at *
  go_enter Tryz.func142, Tryz.ntmps142
  go_wp2_with fail
  have z0 := pslot_of (w := ((w.alloc (.cells #[.int .i64 x.1, .int .i64 x.2] 26)).alloc (.cells #[.int .i64 0, .int .i64 0] 26))) (a := ⟨w.heap.size + 1, 0, none⟩) (v := .int .i64 0) (by simp [go_sem]) (by simp [go_sem])
  have z1 := pslot_of (w := ((w.alloc (.cells #[.int .i64 x.1, .int .i64 x.2] 26)).alloc (.cells #[.int .i64 0, .int .i64 0] 26))) (a := ⟨w.heap.size + 1, 1, none⟩) (v := .int .i64 0) (by simp [go_sem]) (by simp [go_sem])
  obtain ⟨hlt2, hlt3, hlt4, hlt5, hlt6, hlt7, hlt8, hlt9, hlt10, hlt11⟩ := below_add; go_region_held3 (fun w' => w'.cell? ⟨w.heap.size, 0, none⟩ = some (.int .i64 x.1) ∧ w'.cell? ⟨w.heap.size, 1, none⟩ = some (.int .i64 x.2) ∧ (w'.cell? ⟨w.heap.size + 1, 0, none⟩ = some (peek w' ⟨w.heap.size + 1, 0, none⟩) ∧ w'.frozen? ⟨w.heap.size + 1, 0, none⟩ = false) ∧ (w'.cell? ⟨w.heap.size + 1, 1, none⟩ = some (peek w' ⟨w.heap.size + 1, 1, none⟩) ∧ w'.frozen? ⟨w.heap.size + 1, 1, none⟩ = false)) (first | (with_reducible exact ((And.imp (cell_kept (by assumption)) (And.imp (cell_kept (by assumption)) (And.imp (pslot_kept (by assumption)) (pslot_kept (by assumption))))) (by assumption))) | (with_reducible exact ((And.imp (cell_alloc) (And.imp (cell_alloc) (And.imp (pslot_alloc) (pslot_alloc)))) (by assumption))) | (with_reducible exact ((And.imp (fun h => cell_far (by first | (simp; done) | (simp; omega)) (cell_far (by first | (simp; done) | (simp; omega)) h)) (And.imp (fun h => cell_far (by first | (simp; done) | (simp; omega)) (cell_far (by first | (simp; done) | (simp; omega)) h)) (And.imp (fun h => pslot_set (pslot_set h)) (fun h => pslot_set (pslot_set h))))) (by assumption))) | (refine ⟨?_, ?_, ?_, ?_⟩ <;> repeat (first | (with_reducible assumption) | (with_reducible refine cell_far (by first | (simp; done) | (simp; omega)) ?_) | (with_reducible refine cell_drew ?_) | (with_reducible refine cell_drewN ?_) | (with_reducible refine cell_kept (by assumption) ?_) | (with_reducible exact pslot_of (by assumption) (by assumption)) | (with_reducible refine pslot_drew ?_) | (with_reducible refine pslot_kept (by assumption) ?_) | (with_reducible refine pslot_alloc ?_) | (simp [go_sem]; done) | (with_reducible refine cell_alloc ?_))) | (simp [go_sem, *]; done)) (first | (go_at_call 53; refine (I.out _).mono ?_; rintro e w1 ⟨rfl, hb⟩; have hs : _ ≤ w1.heap.size := hb.size; (try simp at hs); obtain ⟨hc, hf, hl, hn, hm⟩ := behind hb) | (go_at_call 44; refine (Q.out _).mono ?_; rintro e w1 ⟨rfl, hb⟩; have hs : _ ≤ w1.heap.size := hb.size; (try simp at hs); obtain ⟨hc, hf, hl, hn, hm⟩ := behind hb) | (go_at_call 43; with_reducible refine (A1.out _).mono ?_; rintro e w1 ⟨rfl, hb⟩; have hs : _ ≤ w1.heap.size := hb.size; (try simp at hs); obtain ⟨hc, hf, hl, hn, hm⟩ := behind hb) | (go_at_call 43; with_reducible refine (A2.out _).mono ?_; rintro e w1 ⟨rfl, hb⟩; have hs : _ ≤ w1.heap.size := hb.size; (try simp at hs); obtain ⟨hc, hf, hl, hn, hm⟩ := behind hb) | (go_at_call 150; refine (R.out _).mono ?_; rintro e w1 ⟨rfl, hb⟩; have hs : _ ≤ w1.heap.size := hb.size; (try simp at hs); obtain ⟨hc, hf, hl, hn, hm⟩ := behind hb) | (go_at_call 64; refine (D.out _).mono ?_; rintro e w1 ⟨rfl, hb⟩; have hs : _ ≤ w1.heap.size := hb.size; (try simp at hs); obtain ⟨hc, hf, hl, hn, hm⟩ := behind hb))
  all_goals (go_wp2; have o_j0 : Own (w1) (w.heap.size + 1) 0 (.int .i64 0) := ownJ; obtain ⟨j0, f_j0⟩ := o_j0; have o_j1 : Own (w1) (w.heap.size + 1) 1 (.int .i64 0) := ownJ; obtain ⟨j1, f_j1⟩ := o_j1; exact bodyPost_ret (v := .agg #[.int .i64 (d).1, .int .i64 (d).2]) (by simp [results, Tryz.results142, go_sem, j0, j1]) rfl ⟨by rw [E.out], belB⟩)
theorem ringArc_any (x : Iv) (hx : Ok x) (w : World) (hg : GloT w) : Calls Tryz.prog 90 #[.agg #[.int .i64 x.1, .int .i64 x.2]] w fun e w' =>
    e = .returned (.agg #[.int .i64 (rinA x).1, .int .i64 (rinA x).2]) ∧ Below w.heap.size w w' := by
  have H1 := Lib.hid (fun w => halfTangent_any x hx w)
  have H2 := Lib.hid (fun w => halfTangent_any (hafT x) (res_ok (hafT_res x)) w)
  have S := Lib.hid (fun w hg => ArcSeries_any (hafT (hafT x)) (res_ok (hafT_res _)) w hg)
  have D1 := Lib.hid (fun w => DoubleI_any (atS (hafT (hafT x))) w)
  have D2 := Lib.hid (fun w => DoubleI_any (addI (atS (hafT (hafT x))) (atS (hafT (hafT x)))) w)
  have E := Lib.hid (show rinA x = addI (addI (atS (hafT (hafT x))) (atS (hafT (hafT x)))) (addI (atS (hafT (hafT x))) (atS (hafT (hafT x)))) from rfl)
  generalize rinA x = Y at *
  generalize addI (addI (atS (hafT (hafT x))) (atS (hafT (hafT x)))) (addI (atS (hafT (hafT x))) (atS (hafT (hafT x)))) = z at *
  generalize addI (atS (hafT (hafT x))) (atS (hafT (hafT x))) = d at *
  generalize atS (hafT (hafT x)) = s at *
  generalize hafT (hafT x) = h at *
  generalize hafT x = k at *
  go_enter Tryz.func90, Tryz.ntmps90
  go_wp2_with fail
  refine (H1.out _).mono ?_
  rintro e w1 ⟨rfl, hb1⟩
  have hs1 : _ ≤ w1.heap.size := hb1.size
  try simp at hs1
  have o_q10 : Own (w1) (w.heap.size + 1) 0 (.int .i64 0) := ownJ; have q10 := o_q10.1; have f_q10 := o_q10.2; have o_q11 : Own (w1) (w.heap.size + 1) 1 (.int .i64 0) := ownJ; have q11 := o_q11.1; have f_q11 := o_q11.2
  go_wp2_with fail
  refine (H2.out _).mono ?_
  rintro e w2 ⟨rfl, hb2⟩
  have hs2 : _ ≤ w2.heap.size := hb2.size
  try simp at hs2
  have o_q20 : Own (w2) (w.heap.size + 1) 0 (.int .i64 0) := ownJ; have q20 := o_q20.1; have f_q20 := o_q20.2; have o_q21 : Own (w2) (w.heap.size + 1) 1 (.int .i64 0) := ownJ; have q21 := o_q21.1; have f_q21 := o_q21.2
  go_wp2_with fail
  refine (S.out _ (by repeat (first | (with_reducible assumption) | (with_reducible refine GloT.drew ?_) | (with_reducible refine GloT.kept ?_ (by assumption)) | (with_reducible refine GloT.alloc ?_ _)))).mono ?_
  rintro e w3 ⟨rfl, hb3⟩
  have hs3 : _ ≤ w3.heap.size := hb3.size
  try simp at hs3
  have o_q30 : Own (w3) (w.heap.size + 1) 0 (.int .i64 0) := ownJ; have q30 := o_q30.1; have f_q30 := o_q30.2; have o_q31 : Own (w3) (w.heap.size + 1) 1 (.int .i64 0) := ownJ; have q31 := o_q31.1; have f_q31 := o_q31.2
  go_wp2_with fail
  refine (D1.out _).mono ?_
  rintro e w4 ⟨rfl, hb4⟩
  have hs4 : _ ≤ w4.heap.size := hb4.size
  try simp at hs4
  have o_q40 : Own (w4) (w.heap.size + 1) 0 (.int .i64 0) := ownJ; have q40 := o_q40.1; have f_q40 := o_q40.2; have o_q41 : Own (w4) (w.heap.size + 1) 1 (.int .i64 0) := ownJ; have q41 := o_q41.1; have f_q41 := o_q41.2
  go_wp2_with fail
  refine (D2.out _).mono ?_
  rintro e w5 ⟨rfl, hb5⟩
  have hs5 : _ ≤ w5.heap.size := hb5.size
  try simp at hs5
  have o_q50 : Own (w5) (w.heap.size + 1) 0 (.int .i64 0) := ownJ; have q50 := o_q50.1; have f_q50 := o_q50.2; have o_q51 : Own (w5) (w.heap.size + 1) 1 (.int .i64 0) := ownJ; have q51 := o_q51.1; have f_q51 := o_q51.2
  go_wp2
  exact bodyPost_ret (v := .agg #[.int .i64 (z).1, .int .i64 (z).2]) (by simp [results, Tryz.results90, go_sem, q50, q51]) rfl ⟨by rw [E.out], belB⟩
theorem sringArc_any (x : Iv) (hx : Ok x) (w : World) : Calls Tryz.prog 87 #[.agg #[.int .i64 x.1, .int .i64 x.2]] w fun e w' =>
    e = .returned (.agg #[.int .i64 (rinA x).1, .int .i64 (rinA x).2]) ∧ Below w.heap.size w w' := by
  have H1 := Lib.hid (fun w => shalfTangent_any x hx w)
  have H2 := Lib.hid (fun w => shalfTangent_any (hafT x) (res_ok (hafT_res x)) w)
  have S := Lib.hid (fun w => sArcSeries_any (hafT (hafT x)) (res_ok (hafT_res _)) w)
  have D1 := Lib.hid (fun w => sDoubleI_any (atS (hafT (hafT x))) w)
  have D2 := Lib.hid (fun w => sDoubleI_any (addI (atS (hafT (hafT x))) (atS (hafT (hafT x)))) w)
  have E := Lib.hid (show rinA x = addI (addI (atS (hafT (hafT x))) (atS (hafT (hafT x)))) (addI (atS (hafT (hafT x))) (atS (hafT (hafT x)))) from rfl)
  generalize rinA x = Y at *
  generalize addI (addI (atS (hafT (hafT x))) (atS (hafT (hafT x)))) (addI (atS (hafT (hafT x))) (atS (hafT (hafT x)))) = z at *
  generalize addI (atS (hafT (hafT x))) (atS (hafT (hafT x))) = d at *
  generalize atS (hafT (hafT x)) = s at *
  generalize hafT (hafT x) = h at *
  generalize hafT x = k at *
  go_enter Tryz.func87, Tryz.ntmps87
  go_wp2_with fail
  refine (H1.out _).mono ?_
  rintro e w1 ⟨rfl, hb1⟩
  have hs1 : _ ≤ w1.heap.size := hb1.size
  try simp at hs1
  have o_q10 : Own (w1) (w.heap.size + 1) 0 (.int .i64 0) := ownJ; have q10 := o_q10.1; have f_q10 := o_q10.2; have o_q11 : Own (w1) (w.heap.size + 1) 1 (.int .i64 0) := ownJ; have q11 := o_q11.1; have f_q11 := o_q11.2
  go_wp2_with fail
  refine (H2.out _).mono ?_
  rintro e w2 ⟨rfl, hb2⟩
  have hs2 : _ ≤ w2.heap.size := hb2.size
  try simp at hs2
  have o_q20 : Own (w2) (w.heap.size + 1) 0 (.int .i64 0) := ownJ; have q20 := o_q20.1; have f_q20 := o_q20.2; have o_q21 : Own (w2) (w.heap.size + 1) 1 (.int .i64 0) := ownJ; have q21 := o_q21.1; have f_q21 := o_q21.2
  go_wp2_with fail
  refine (S.out _).mono ?_
  rintro e w3 ⟨rfl, hb3⟩
  have hs3 : _ ≤ w3.heap.size := hb3.size
  try simp at hs3
  have o_q30 : Own (w3) (w.heap.size + 1) 0 (.int .i64 0) := ownJ; have q30 := o_q30.1; have f_q30 := o_q30.2; have o_q31 : Own (w3) (w.heap.size + 1) 1 (.int .i64 0) := ownJ; have q31 := o_q31.1; have f_q31 := o_q31.2
  go_wp2_with fail
  refine (D1.out _).mono ?_
  rintro e w4 ⟨rfl, hb4⟩
  have hs4 : _ ≤ w4.heap.size := hb4.size
  try simp at hs4
  have o_q40 : Own (w4) (w.heap.size + 1) 0 (.int .i64 0) := ownJ; have q40 := o_q40.1; have f_q40 := o_q40.2; have o_q41 : Own (w4) (w.heap.size + 1) 1 (.int .i64 0) := ownJ; have q41 := o_q41.1; have f_q41 := o_q41.2
  go_wp2_with fail
  refine (D2.out _).mono ?_
  rintro e w5 ⟨rfl, hb5⟩
  have hs5 : _ ≤ w5.heap.size := hb5.size
  try simp at hs5
  have o_q50 : Own (w5) (w.heap.size + 1) 0 (.int .i64 0) := ownJ; have q50 := o_q50.1; have f_q50 := o_q50.2; have o_q51 : Own (w5) (w.heap.size + 1) 1 (.int .i64 0) := ownJ; have q51 := o_q51.1; have f_q51 := o_q51.2
  go_wp2
  exact bodyPost_ret (v := .agg #[.int .i64 (z).1, .int .i64 (z).2]) (by simp [results, Tryz.results87, go_sem, q50, q51]) rfl ⟨by rw [E.out], belB⟩
end Go.Proofs.YtmikjgbojknlnaaGreatDoor
