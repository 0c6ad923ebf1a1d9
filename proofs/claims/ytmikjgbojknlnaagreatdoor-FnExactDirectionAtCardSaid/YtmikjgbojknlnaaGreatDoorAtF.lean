/- Contracts of directions of points and of boxes in the program. Conditions: numbers are int64; the program's two intervals are laid. -/
import Derived.Test.YtmikjgbojknlnaaGreatDoorAtD
import Derived.Test.YtmikjgbojknlnaaGreatDoorIvB
import Derived.Test.YtmikjgbojknlnaaGreatDoorIvC
import Derived.Deep.RegionHeld3
import Derived.Outline
namespace Go.Proofs.YtmikjgbojknlnaaGreatDoor
open Go.ChangeShapes Go.WideShapes Go.ChangeAt Go.RowKit
set_option linter.unusedVariables false
set_option maxRecDepth 100000
set_option linter.unusedSimpArgs false
set_option maxHeartbeats 1000000
theorem DirectionAt_no (y x : Int) (h : ¬ (FixN y ∧ FixN x)) (w : World) : Calls Tryz.prog 35 #[.int .i64 y, .int .i64 x] w fun e w' =>
    e = .returned (.agg #[.int .i64 (-1152921504606846976), .int .i64 1152921504606846976]) ∧ Below w.heap.size w w' := by
  have SY := Lib.hid (fun w => single_any y w)
  have SX := Lib.hid (fun w => single_any x w)
  have B := Lib.hid (show (bnd (y, y) && bnd (x, x)) = false by
    by_cases c : FixN y
    · rw [bnd_no (x := (x, x)) (fun k => h ⟨c, by unfold Bnd at k; unfold FixN; simp only at k; omega⟩), Bool.and_false]
    · rw [bnd_no (x := (y, y)) (fun k => c (by unfold Bnd at k; unfold FixN; simp only at k; omega)), Bool.false_and])
  clear h
  go_enter Tryz.func35, Tryz.ntmps35
  go_wp2_with fail
  refine (SY.out _).mono ?_
  rintro e w1 ⟨rfl, hb1⟩
  have hs1 : _ ≤ w1.heap.size := hb1.size
  try simp at hs1
  have o_q10 : Own (w1) (w.heap.size) 0 (.int .i64 0) := ownJ; have q10 := o_q10.1; have f_q10 := o_q10.2; have o_q11 : Own (w1) (w.heap.size) 1 (.int .i64 0) := ownJ; have q11 := o_q11.1; have f_q11 := o_q11.2
  go_wp2_with fail
  refine (SX.out _).mono ?_
  rintro e w2 ⟨rfl, hb2⟩
  have hs2 : _ ≤ w2.heap.size := hb2.size
  try simp at hs2
  have o_q20 : Own (w2) (w.heap.size) 0 (.int .i64 0) := ownJ; have q20 := o_q20.1; have f_q20 := o_q20.2; have o_q21 : Own (w2) (w.heap.size) 1 (.int .i64 0) := ownJ; have q21 := o_q21.1; have f_q21 := o_q21.2
  go_wp2_with fail
  refine (areBounded2 (y, y) (x, x) _ _ (by simp [go_sem]) (by simp [go_sem]) (by simp [go_sem]) (by simp [go_sem])).mono ?_
  rintro e w3 ⟨rfl, hb3⟩
  have hs3 : _ ≤ w3.heap.size := hb3.size
  try simp at hs3
  rw [B.out]
  have o_q30 : Own (w3) (w.heap.size) 0 (.int .i64 0) := ownJ; have q30 := o_q30.1; have f_q30 := o_q30.2; have o_q31 : Own (w3) (w.heap.size) 1 (.int .i64 0) := ownJ; have q31 := o_q31.1; have f_q31 := o_q31.2
  go_wp2_with fail
  refine (Whole_any _).mono ?_
  rintro e w4 ⟨rfl, hb4⟩
  have hs4 : _ ≤ w4.heap.size := hb4.size
  try simp at hs4
  have o_q40 : Own (w4) (w.heap.size) 0 (.int .i64 0) := ownJ; have q40 := o_q40.1; have f_q40 := o_q40.2; have o_q41 : Own (w4) (w.heap.size) 1 (.int .i64 0) := ownJ; have q41 := o_q41.1; have f_q41 := o_q41.2
  go_wp2
  exact bodyPost_ret (v := .agg #[.int .i64 (-1152921504606846976), .int .i64 1152921504606846976]) (by simp [results, Tryz.results35, go_sem, q40, q41]) rfl ⟨rfl, belB⟩
theorem DirectionAt_zero (y x : Int) (d : FixN y ∧ FixN x) (hy : y = 0) (hx : x = 0) (w : World) : Calls Tryz.prog 35 #[.int .i64 y, .int .i64 x] w fun e w' =>
    e = .returned (.agg #[.int .i64 (-1152921504606846976), .int .i64 1152921504606846976]) ∧ Below w.heap.size w w' := by
  have SY := Lib.hid (fun w => single_any y w)
  have SX := Lib.hid (fun w => single_any x w)
  have B := Lib.hid (show (bnd (y, y) && bnd (x, x)) = true by rw [bnd_yes (one_bnd d.1), bnd_yes (one_bnd d.2)]; rfl)
  have ey : (y == 0) = true := by simp [hy]
  have ex : (x == 0) = true := by simp [hx]
  clear hy hx d
  go_enter Tryz.func35, Tryz.ntmps35
  go_wp2_with fail
  refine (SY.out _).mono ?_
  rintro e w1 ⟨rfl, hb1⟩
  have hs1 : _ ≤ w1.heap.size := hb1.size
  try simp at hs1
  have o_q10 : Own (w1) (w.heap.size) 0 (.int .i64 0) := ownJ; have q10 := o_q10.1; have f_q10 := o_q10.2; have o_q11 : Own (w1) (w.heap.size) 1 (.int .i64 0) := ownJ; have q11 := o_q11.1; have f_q11 := o_q11.2
  go_wp2_with fail
  refine (SX.out _).mono ?_
  rintro e w2 ⟨rfl, hb2⟩
  have hs2 : _ ≤ w2.heap.size := hb2.size
  try simp at hs2
  have o_q20 : Own (w2) (w.heap.size) 0 (.int .i64 0) := ownJ; have q20 := o_q20.1; have f_q20 := o_q20.2; have o_q21 : Own (w2) (w.heap.size) 1 (.int .i64 0) := ownJ; have q21 := o_q21.1; have f_q21 := o_q21.2
  go_wp2_with fail
  refine (areBounded2 (y, y) (x, x) _ _ (by simp [go_sem]) (by simp [go_sem]) (by simp [go_sem]) (by simp [go_sem])).mono ?_
  rintro e w3 ⟨rfl, hb3⟩
  have hs3 : _ ≤ w3.heap.size := hb3.size
  try simp at hs3
  rw [B.out]
  have o_q30 : Own (w3) (w.heap.size) 0 (.int .i64 0) := ownJ; have q30 := o_q30.1; have f_q30 := o_q30.2; have o_q31 : Own (w3) (w.heap.size) 1 (.int .i64 0) := ownJ; have q31 := o_q31.1; have f_q31 := o_q31.2
  go_wp2_with fail
  refine (Whole_any _).mono ?_
  rintro e w4 ⟨rfl, hb4⟩
  have hs4 : _ ≤ w4.heap.size := hb4.size
  try simp at hs4
  have o_q40 : Own (w4) (w.heap.size) 0 (.int .i64 0) := ownJ; have q40 := o_q40.1; have f_q40 := o_q40.2; have o_q41 : Own (w4) (w.heap.size) 1 (.int .i64 0) := ownJ; have q41 := o_q41.1; have f_q41 := o_q41.2
  go_wp2
  exact bodyPost_ret (v := .agg #[.int .i64 (-1152921504606846976), .int .i64 1152921504606846976]) (by simp [results, Tryz.results35, go_sem, q40, q41]) rfl ⟨rfl, belB⟩
theorem DirectionAt_pos (y x : Int) (d : DirN y x) (p : 0 ≤ y) (w : World) (hg : GloT w) : Calls Tryz.prog 35 #[.int .i64 y, .int .i64 x] w fun e w' =>
    e = .returned (.agg #[.int .i64 (dirU y x).1, .int .i64 (dirU y x).2]) ∧ Below w.heap.size w w' := by
  have SY := Lib.hid (fun w => single_any y w)
  have SX := Lib.hid (fun w => single_any x w)
  have B := Lib.hid (show (bnd (y, y) && bnd (x, x)) = true by rw [bnd_yes (one_bnd d.1), bnd_yes (one_bnd d.2.1)]; rfl)
  obtain ⟨d1, d2, d3⟩ := id d
  unfold FixN at d1 d2
  have iy : In64 y := by unfold In64; omega
  have ix : In64 x := by unfold In64; omega
  have WX : IntKind.i64.wrap (-x) = -x := by rw [IntKind.wrap_i64]; omega
  have s0 : decide (y < 0) = false := decide_eq_false (by omega)
  by_cases zy : y = 0
  · have ey : (y == 0) = true := by simp [zy]
    have ex : (x == 0) = false := by simp; omega
    by_cases c : x < 0
    · have k1 : decide (x < y) = true := decide_eq_true (by omega)
      have k2 : decide (-x < y) = false := decide_eq_false (by omega)
      have k3 : decide (x < 0) = true := decide_eq_true (by omega)
      have T := Lib.hid (fun w => TurnI_any 2 w)
      have Q := Lib.hid (fun w => quotientAt_any y x iy ix w)
      have A := Lib.hid (fun w hg => AtanI_any (rdD y x) w hg)
      have U := Lib.hid (fun w => AddI_any (atnI (rdD y x)) (turI 2) w)
      have E := Lib.hid (show dirU y x = addI (atnI (rdD y x)) (turI 2) by unfold dirU; rw [if_neg (by omega), if_pos (by omega)])
      clear d d1 d2 d3 iy ix p c zy
      generalize dirU y x = Y at *
      generalize addI (atnI (rdD y x)) (turI 2) = z at *
      generalize atnI (rdD y x) = a at *
      generalize rdD y x = q at *
      generalize turI 2 = t at *
      go_enter Tryz.func35, Tryz.ntmps35
      go_wp2_with fail
      refine (SY.out _).mono ?_
      rintro e w1 ⟨rfl, hb1⟩
      have hs1 : _ ≤ w1.heap.size := hb1.size
      try simp at hs1
      have o_q10 : Own (w1) (w.heap.size) 0 (.int .i64 0) := ownJ; have q10 := o_q10.1; have f_q10 := o_q10.2; have o_q11 : Own (w1) (w.heap.size) 1 (.int .i64 0) := ownJ; have q11 := o_q11.1; have f_q11 := o_q11.2
      go_wp2_with fail
      refine (SX.out _).mono ?_
      rintro e w2 ⟨rfl, hb2⟩
      have hs2 : _ ≤ w2.heap.size := hb2.size
      try simp at hs2
      have o_q20 : Own (w2) (w.heap.size) 0 (.int .i64 0) := ownJ; have q20 := o_q20.1; have f_q20 := o_q20.2; have o_q21 : Own (w2) (w.heap.size) 1 (.int .i64 0) := ownJ; have q21 := o_q21.1; have f_q21 := o_q21.2
      go_wp2_with fail
      refine (areBounded2 (y, y) (x, x) _ _ (by simp [go_sem]) (by simp [go_sem]) (by simp [go_sem]) (by simp [go_sem])).mono ?_
      rintro e w3 ⟨rfl, hb3⟩
      have hs3 : _ ≤ w3.heap.size := hb3.size
      try simp at hs3
      rw [B.out]
      have o_q30 : Own (w3) (w.heap.size) 0 (.int .i64 0) := ownJ; have q30 := o_q30.1; have f_q30 := o_q30.2; have o_q31 : Own (w3) (w.heap.size) 1 (.int .i64 0) := ownJ; have q31 := o_q31.1; have f_q31 := o_q31.2
      go_wp2_with fail
      refine (Q.out _).mono ?_
      rintro e w4 ⟨rfl, hb4⟩
      have hs4 : _ ≤ w4.heap.size := hb4.size
      try simp at hs4
      have o_q40 : Own (w4) (w.heap.size) 0 (.int .i64 0) := ownJ; have q40 := o_q40.1; have f_q40 := o_q40.2; have o_q41 : Own (w4) (w.heap.size) 1 (.int .i64 0) := ownJ; have q41 := o_q41.1; have f_q41 := o_q41.2
      go_wp2_with fail
      refine (A.out _ (by repeat (first | (with_reducible assumption) | (with_reducible refine GloT.drew ?_) | (with_reducible refine GloT.kept ?_ (by assumption)) | (with_reducible refine GloT.alloc ?_ _)))).mono ?_
      rintro e w5 ⟨rfl, hb5⟩
      have hs5 : _ ≤ w5.heap.size := hb5.size
      try simp at hs5
      have o_q50 : Own (w5) (w.heap.size) 0 (.int .i64 0) := ownJ; have q50 := o_q50.1; have f_q50 := o_q50.2; have o_q51 : Own (w5) (w.heap.size) 1 (.int .i64 0) := ownJ; have q51 := o_q51.1; have f_q51 := o_q51.2
      go_wp2_with fail
      refine (T.out _).mono ?_
      rintro e w6 ⟨rfl, hb6⟩
      have hs6 : _ ≤ w6.heap.size := hb6.size
      try simp at hs6
      have o_q60 : Own (w6) (w.heap.size) 0 (.int .i64 0) := ownJ; have q60 := o_q60.1; have f_q60 := o_q60.2; have o_q61 : Own (w6) (w.heap.size) 1 (.int .i64 0) := ownJ; have q61 := o_q61.1; have f_q61 := o_q61.2
      go_wp2_with fail
      refine (U.out _).mono ?_
      rintro e w7 ⟨rfl, hb7⟩
      have hs7 : _ ≤ w7.heap.size := hb7.size
      try simp at hs7
      have o_q70 : Own (w7) (w.heap.size) 0 (.int .i64 0) := ownJ; have q70 := o_q70.1; have f_q70 := o_q70.2; have o_q71 : Own (w7) (w.heap.size) 1 (.int .i64 0) := ownJ; have q71 := o_q71.1; have f_q71 := o_q71.2
      go_wp2
      exact bodyPost_ret (v := .agg #[.int .i64 (z).1, .int .i64 (z).2]) (by simp [results, Tryz.results35, go_sem, q70, q71]) rfl ⟨by rw [E.out], belB⟩
    · have k1 : decide (x < y) = false := decide_eq_false (by omega)
      have k3 : decide (x < 0) = false := decide_eq_false (by omega)
      have Q := Lib.hid (fun w => quotientAt_any y x iy ix w)
      have A := Lib.hid (fun w hg => AtanI_any (rdD y x) w hg)
      have E := Lib.hid (show dirU y x = atnI (rdD y x) by unfold dirU; rw [if_neg (by omega), if_neg (by omega)])
      clear d d1 d2 d3 iy ix p c zy
      generalize dirU y x = Y at *
      generalize atnI (rdD y x) = z at *
      generalize rdD y x = q at *
      go_enter Tryz.func35, Tryz.ntmps35
      go_wp2_with fail
      refine (SY.out _).mono ?_
      rintro e w1 ⟨rfl, hb1⟩
      have hs1 : _ ≤ w1.heap.size := hb1.size
      try simp at hs1
      have o_q10 : Own (w1) (w.heap.size) 0 (.int .i64 0) := ownJ; have q10 := o_q10.1; have f_q10 := o_q10.2; have o_q11 : Own (w1) (w.heap.size) 1 (.int .i64 0) := ownJ; have q11 := o_q11.1; have f_q11 := o_q11.2
      go_wp2_with fail
      refine (SX.out _).mono ?_
      rintro e w2 ⟨rfl, hb2⟩
      have hs2 : _ ≤ w2.heap.size := hb2.size
      try simp at hs2
      have o_q20 : Own (w2) (w.heap.size) 0 (.int .i64 0) := ownJ; have q20 := o_q20.1; have f_q20 := o_q20.2; have o_q21 : Own (w2) (w.heap.size) 1 (.int .i64 0) := ownJ; have q21 := o_q21.1; have f_q21 := o_q21.2
      go_wp2_with fail
      refine (areBounded2 (y, y) (x, x) _ _ (by simp [go_sem]) (by simp [go_sem]) (by simp [go_sem]) (by simp [go_sem])).mono ?_
      rintro e w3 ⟨rfl, hb3⟩
      have hs3 : _ ≤ w3.heap.size := hb3.size
      try simp at hs3
      rw [B.out]
      have o_q30 : Own (w3) (w.heap.size) 0 (.int .i64 0) := ownJ; have q30 := o_q30.1; have f_q30 := o_q30.2; have o_q31 : Own (w3) (w.heap.size) 1 (.int .i64 0) := ownJ; have q31 := o_q31.1; have f_q31 := o_q31.2
      go_wp2_with fail
      refine (Q.out _).mono ?_
      rintro e w4 ⟨rfl, hb4⟩
      have hs4 : _ ≤ w4.heap.size := hb4.size
      try simp at hs4
      have o_q40 : Own (w4) (w.heap.size) 0 (.int .i64 0) := ownJ; have q40 := o_q40.1; have f_q40 := o_q40.2; have o_q41 : Own (w4) (w.heap.size) 1 (.int .i64 0) := ownJ; have q41 := o_q41.1; have f_q41 := o_q41.2
      go_wp2_with fail
      refine (A.out _ (by repeat (first | (with_reducible assumption) | (with_reducible refine GloT.drew ?_) | (with_reducible refine GloT.kept ?_ (by assumption)) | (with_reducible refine GloT.alloc ?_ _)))).mono ?_
      rintro e w5 ⟨rfl, hb5⟩
      have hs5 : _ ≤ w5.heap.size := hb5.size
      try simp at hs5
      have o_q50 : Own (w5) (w.heap.size) 0 (.int .i64 0) := ownJ; have q50 := o_q50.1; have f_q50 := o_q50.2; have o_q51 : Own (w5) (w.heap.size) 1 (.int .i64 0) := ownJ; have q51 := o_q51.1; have f_q51 := o_q51.2
      go_wp2
      exact bodyPost_ret (v := .agg #[.int .i64 (z).1, .int .i64 (z).2]) (by simp [results, Tryz.results35, go_sem, q50, q51]) rfl ⟨by rw [E.out], belB⟩
  · have ey : (y == 0) = false := by simpa using zy
    by_cases c : x < y
    · by_cases c2 : -x < y
      · have k1 : decide (x < y) = true := decide_eq_true (by omega)
        have k2 : decide (-x < y) = true := decide_eq_true (by omega)
        have T := Lib.hid (fun w => TurnI_any 1 w)
        have Q := Lib.hid (fun w => quotientAt_any x y ix iy w)
        have A := Lib.hid (fun w hg => AtanI_any (rdD x y) w hg)
        have U := Lib.hid (fun w => SubI_any (turI 1) (atnI (rdD x y)) w)
        have E := Lib.hid (show dirU y x = subI (turI 1) (atnI (rdD x y)) from if_pos ⟨by omega, by omega⟩)
        clear d d1 d2 d3 iy ix p c c2 zy
        generalize dirU y x = Y at *
        generalize subI (turI 1) (atnI (rdD x y)) = z at *
        generalize atnI (rdD x y) = a at *
        generalize rdD x y = q at *
        generalize turI 1 = t at *
        go_enter Tryz.func35, Tryz.ntmps35
        go_wp2_with fail
        refine (SY.out _).mono ?_
        rintro e w1 ⟨rfl, hb1⟩
        have hs1 : _ ≤ w1.heap.size := hb1.size
        try simp at hs1
        have o_q10 : Own (w1) (w.heap.size) 0 (.int .i64 0) := ownJ; have q10 := o_q10.1; have f_q10 := o_q10.2; have o_q11 : Own (w1) (w.heap.size) 1 (.int .i64 0) := ownJ; have q11 := o_q11.1; have f_q11 := o_q11.2
        go_wp2_with fail
        refine (SX.out _).mono ?_
        rintro e w2 ⟨rfl, hb2⟩
        have hs2 : _ ≤ w2.heap.size := hb2.size
        try simp at hs2
        have o_q20 : Own (w2) (w.heap.size) 0 (.int .i64 0) := ownJ; have q20 := o_q20.1; have f_q20 := o_q20.2; have o_q21 : Own (w2) (w.heap.size) 1 (.int .i64 0) := ownJ; have q21 := o_q21.1; have f_q21 := o_q21.2
        go_wp2_with fail
        refine (areBounded2 (y, y) (x, x) _ _ (by simp [go_sem]) (by simp [go_sem]) (by simp [go_sem]) (by simp [go_sem])).mono ?_
        rintro e w3 ⟨rfl, hb3⟩
        have hs3 : _ ≤ w3.heap.size := hb3.size
        try simp at hs3
        rw [B.out]
        have o_q30 : Own (w3) (w.heap.size) 0 (.int .i64 0) := ownJ; have q30 := o_q30.1; have f_q30 := o_q30.2; have o_q31 : Own (w3) (w.heap.size) 1 (.int .i64 0) := ownJ; have q31 := o_q31.1; have f_q31 := o_q31.2
        go_wp2_with fail
        refine (T.out _).mono ?_
        rintro e w4 ⟨rfl, hb4⟩
        have hs4 : _ ≤ w4.heap.size := hb4.size
        try simp at hs4
        have o_q40 : Own (w4) (w.heap.size) 0 (.int .i64 0) := ownJ; have q40 := o_q40.1; have f_q40 := o_q40.2; have o_q41 : Own (w4) (w.heap.size) 1 (.int .i64 0) := ownJ; have q41 := o_q41.1; have f_q41 := o_q41.2
        go_wp2_with fail
        refine (Q.out _).mono ?_
        rintro e w5 ⟨rfl, hb5⟩
        have hs5 : _ ≤ w5.heap.size := hb5.size
        try simp at hs5
        have o_q50 : Own (w5) (w.heap.size) 0 (.int .i64 0) := ownJ; have q50 := o_q50.1; have f_q50 := o_q50.2; have o_q51 : Own (w5) (w.heap.size) 1 (.int .i64 0) := ownJ; have q51 := o_q51.1; have f_q51 := o_q51.2
        go_wp2_with fail
        refine (A.out _ (by repeat (first | (with_reducible assumption) | (with_reducible refine GloT.drew ?_) | (with_reducible refine GloT.kept ?_ (by assumption)) | (with_reducible refine GloT.alloc ?_ _)))).mono ?_
        rintro e w6 ⟨rfl, hb6⟩
        have hs6 : _ ≤ w6.heap.size := hb6.size
        try simp at hs6
        have o_q60 : Own (w6) (w.heap.size) 0 (.int .i64 0) := ownJ; have q60 := o_q60.1; have f_q60 := o_q60.2; have o_q61 : Own (w6) (w.heap.size) 1 (.int .i64 0) := ownJ; have q61 := o_q61.1; have f_q61 := o_q61.2
        go_wp2_with fail
        refine (U.out _).mono ?_
        rintro e w7 ⟨rfl, hb7⟩
        have hs7 : _ ≤ w7.heap.size := hb7.size
        try simp at hs7
        have o_q70 : Own (w7) (w.heap.size) 0 (.int .i64 0) := ownJ; have q70 := o_q70.1; have f_q70 := o_q70.2; have o_q71 : Own (w7) (w.heap.size) 1 (.int .i64 0) := ownJ; have q71 := o_q71.1; have f_q71 := o_q71.2
        go_wp2
        exact bodyPost_ret (v := .agg #[.int .i64 (z).1, .int .i64 (z).2]) (by simp [results, Tryz.results35, go_sem, q70, q71]) rfl ⟨by rw [E.out], belB⟩
      · have k1 : decide (x < y) = true := decide_eq_true (by omega)
        have k2 : decide (-x < y) = false := decide_eq_false (by omega)
        have k3 : decide (x < 0) = true := decide_eq_true (by omega)
        have T := Lib.hid (fun w => TurnI_any 2 w)
        have Q := Lib.hid (fun w => quotientAt_any y x iy ix w)
        have A := Lib.hid (fun w hg => AtanI_any (rdD y x) w hg)
        have U := Lib.hid (fun w => AddI_any (atnI (rdD y x)) (turI 2) w)
        have E := Lib.hid (show dirU y x = addI (atnI (rdD y x)) (turI 2) by unfold dirU; rw [if_neg (by omega), if_pos (by omega)])
        clear d d1 d2 d3 iy ix p c c2 zy
        generalize dirU y x = Y at *
        generalize addI (atnI (rdD y x)) (turI 2) = z at *
        generalize atnI (rdD y x) = a at *
        generalize rdD y x = q at *
        generalize turI 2 = t at *
        go_enter Tryz.func35, Tryz.ntmps35
        go_wp2_with fail
        refine (SY.out _).mono ?_
        rintro e w1 ⟨rfl, hb1⟩
        have hs1 : _ ≤ w1.heap.size := hb1.size
        try simp at hs1
        have o_q10 : Own (w1) (w.heap.size) 0 (.int .i64 0) := ownJ; have q10 := o_q10.1; have f_q10 := o_q10.2; have o_q11 : Own (w1) (w.heap.size) 1 (.int .i64 0) := ownJ; have q11 := o_q11.1; have f_q11 := o_q11.2
        go_wp2_with fail
        refine (SX.out _).mono ?_
        rintro e w2 ⟨rfl, hb2⟩
        have hs2 : _ ≤ w2.heap.size := hb2.size
        try simp at hs2
        have o_q20 : Own (w2) (w.heap.size) 0 (.int .i64 0) := ownJ; have q20 := o_q20.1; have f_q20 := o_q20.2; have o_q21 : Own (w2) (w.heap.size) 1 (.int .i64 0) := ownJ; have q21 := o_q21.1; have f_q21 := o_q21.2
        go_wp2_with fail
        refine (areBounded2 (y, y) (x, x) _ _ (by simp [go_sem]) (by simp [go_sem]) (by simp [go_sem]) (by simp [go_sem])).mono ?_
        rintro e w3 ⟨rfl, hb3⟩
        have hs3 : _ ≤ w3.heap.size := hb3.size
        try simp at hs3
        rw [B.out]
        have o_q30 : Own (w3) (w.heap.size) 0 (.int .i64 0) := ownJ; have q30 := o_q30.1; have f_q30 := o_q30.2; have o_q31 : Own (w3) (w.heap.size) 1 (.int .i64 0) := ownJ; have q31 := o_q31.1; have f_q31 := o_q31.2
        go_wp2_with fail
        refine (Q.out _).mono ?_
        rintro e w4 ⟨rfl, hb4⟩
        have hs4 : _ ≤ w4.heap.size := hb4.size
        try simp at hs4
        have o_q40 : Own (w4) (w.heap.size) 0 (.int .i64 0) := ownJ; have q40 := o_q40.1; have f_q40 := o_q40.2; have o_q41 : Own (w4) (w.heap.size) 1 (.int .i64 0) := ownJ; have q41 := o_q41.1; have f_q41 := o_q41.2
        go_wp2_with fail
        refine (A.out _ (by repeat (first | (with_reducible assumption) | (with_reducible refine GloT.drew ?_) | (with_reducible refine GloT.kept ?_ (by assumption)) | (with_reducible refine GloT.alloc ?_ _)))).mono ?_
        rintro e w5 ⟨rfl, hb5⟩
        have hs5 : _ ≤ w5.heap.size := hb5.size
        try simp at hs5
        have o_q50 : Own (w5) (w.heap.size) 0 (.int .i64 0) := ownJ; have q50 := o_q50.1; have f_q50 := o_q50.2; have o_q51 : Own (w5) (w.heap.size) 1 (.int .i64 0) := ownJ; have q51 := o_q51.1; have f_q51 := o_q51.2
        go_wp2_with fail
        refine (T.out _).mono ?_
        rintro e w6 ⟨rfl, hb6⟩
        have hs6 : _ ≤ w6.heap.size := hb6.size
        try simp at hs6
        have o_q60 : Own (w6) (w.heap.size) 0 (.int .i64 0) := ownJ; have q60 := o_q60.1; have f_q60 := o_q60.2; have o_q61 : Own (w6) (w.heap.size) 1 (.int .i64 0) := ownJ; have q61 := o_q61.1; have f_q61 := o_q61.2
        go_wp2_with fail
        refine (U.out _).mono ?_
        rintro e w7 ⟨rfl, hb7⟩
        have hs7 : _ ≤ w7.heap.size := hb7.size
        try simp at hs7
        have o_q70 : Own (w7) (w.heap.size) 0 (.int .i64 0) := ownJ; have q70 := o_q70.1; have f_q70 := o_q70.2; have o_q71 : Own (w7) (w.heap.size) 1 (.int .i64 0) := ownJ; have q71 := o_q71.1; have f_q71 := o_q71.2
        go_wp2
        exact bodyPost_ret (v := .agg #[.int .i64 (z).1, .int .i64 (z).2]) (by simp [results, Tryz.results35, go_sem, q70, q71]) rfl ⟨by rw [E.out], belB⟩
    · have k1 : decide (x < y) = false := decide_eq_false (by omega)
      have k3 : decide (x < 0) = false := decide_eq_false (by omega)
      have Q := Lib.hid (fun w => quotientAt_any y x iy ix w)
      have A := Lib.hid (fun w hg => AtanI_any (rdD y x) w hg)
      have E := Lib.hid (show dirU y x = atnI (rdD y x) by unfold dirU; rw [if_neg (by omega), if_neg (by omega)])
      clear d d1 d2 d3 iy ix p c zy
      generalize dirU y x = Y at *
      generalize atnI (rdD y x) = z at *
      generalize rdD y x = q at *
      go_enter Tryz.func35, Tryz.ntmps35
      go_wp2_with fail
      refine (SY.out _).mono ?_
      rintro e w1 ⟨rfl, hb1⟩
      have hs1 : _ ≤ w1.heap.size := hb1.size
      try simp at hs1
      have o_q10 : Own (w1) (w.heap.size) 0 (.int .i64 0) := ownJ; have q10 := o_q10.1; have f_q10 := o_q10.2; have o_q11 : Own (w1) (w.heap.size) 1 (.int .i64 0) := ownJ; have q11 := o_q11.1; have f_q11 := o_q11.2
      go_wp2_with fail
      refine (SX.out _).mono ?_
      rintro e w2 ⟨rfl, hb2⟩
      have hs2 : _ ≤ w2.heap.size := hb2.size
      try simp at hs2
      have o_q20 : Own (w2) (w.heap.size) 0 (.int .i64 0) := ownJ; have q20 := o_q20.1; have f_q20 := o_q20.2; have o_q21 : Own (w2) (w.heap.size) 1 (.int .i64 0) := ownJ; have q21 := o_q21.1; have f_q21 := o_q21.2
      go_wp2_with fail
      refine (areBounded2 (y, y) (x, x) _ _ (by simp [go_sem]) (by simp [go_sem]) (by simp [go_sem]) (by simp [go_sem])).mono ?_
      rintro e w3 ⟨rfl, hb3⟩
      have hs3 : _ ≤ w3.heap.size := hb3.size
      try simp at hs3
      rw [B.out]
      have o_q30 : Own (w3) (w.heap.size) 0 (.int .i64 0) := ownJ; have q30 := o_q30.1; have f_q30 := o_q30.2; have o_q31 : Own (w3) (w.heap.size) 1 (.int .i64 0) := ownJ; have q31 := o_q31.1; have f_q31 := o_q31.2
      go_wp2_with fail
      refine (Q.out _).mono ?_
      rintro e w4 ⟨rfl, hb4⟩
      have hs4 : _ ≤ w4.heap.size := hb4.size
      try simp at hs4
      have o_q40 : Own (w4) (w.heap.size) 0 (.int .i64 0) := ownJ; have q40 := o_q40.1; have f_q40 := o_q40.2; have o_q41 : Own (w4) (w.heap.size) 1 (.int .i64 0) := ownJ; have q41 := o_q41.1; have f_q41 := o_q41.2
      go_wp2_with fail
      refine (A.out _ (by repeat (first | (with_reducible assumption) | (with_reducible refine GloT.drew ?_) | (with_reducible refine GloT.kept ?_ (by assumption)) | (with_reducible refine GloT.alloc ?_ _)))).mono ?_
      rintro e w5 ⟨rfl, hb5⟩
      have hs5 : _ ≤ w5.heap.size := hb5.size
      try simp at hs5
      have o_q50 : Own (w5) (w.heap.size) 0 (.int .i64 0) := ownJ; have q50 := o_q50.1; have f_q50 := o_q50.2; have o_q51 : Own (w5) (w.heap.size) 1 (.int .i64 0) := ownJ; have q51 := o_q51.1; have f_q51 := o_q51.2
      go_wp2
      exact bodyPost_ret (v := .agg #[.int .i64 (z).1, .int .i64 (z).2]) (by simp [results, Tryz.results35, go_sem, q50, q51]) rfl ⟨by rw [E.out], belB⟩
theorem DirectionAt_neg (y x : Int) (d : DirN y x) (p : y < 0) (w : World) (hg : GloT w) : Calls Tryz.prog 35 #[.int .i64 y, .int .i64 x] w fun e w' =>
    e = .returned (.agg #[.int .i64 (negI (dirU (-y) x)).1, .int .i64 (negI (dirU (-y) x)).2]) ∧ Below w.heap.size w w' := by
  have SY := Lib.hid (fun w => single_any y w)
  have SX := Lib.hid (fun w => single_any x w)
  have B := Lib.hid (show (bnd (y, y) && bnd (x, x)) = true by rw [bnd_yes (one_bnd d.1), bnd_yes (one_bnd d.2.1)]; rfl)
  obtain ⟨d1, d2, d3⟩ := id d
  unfold FixN at d1 d2
  have iy : In64 y := by unfold In64; omega
  have ix : In64 x := by unfold In64; omega
  have WX : IntKind.i64.wrap (-x) = -x := by rw [IntKind.wrap_i64]; omega
  have ey : (y == 0) = false := by simp; omega
  have s0 : decide (y < 0) = true := decide_eq_true p
  have WN : IntKind.i64.wrap (-y) = -y := by rw [IntKind.wrap_i64]; omega
  have R := Lib.hid (fun w hg => DirectionAt_pos (-y) x (by unfold DirN FixN at *; omega) (by omega) w hg)
  have U := Lib.hid (fun w => NegI_any (dirU (-y) x) w)
  clear d d1 d2 d3 iy ix p
  generalize negI (dirU (-y) x) = z at *
  generalize dirU (-y) x = r at *
  go_enter Tryz.func35, Tryz.ntmps35
  go_wp2_with fail
  refine (SY.out _).mono ?_
  rintro e w1 ⟨rfl, hb1⟩
  have hs1 : _ ≤ w1.heap.size := hb1.size
  try simp at hs1
  have o_q10 : Own (w1) (w.heap.size) 0 (.int .i64 0) := ownJ; have q10 := o_q10.1; have f_q10 := o_q10.2; have o_q11 : Own (w1) (w.heap.size) 1 (.int .i64 0) := ownJ; have q11 := o_q11.1; have f_q11 := o_q11.2
  go_wp2_with fail
  refine (SX.out _).mono ?_
  rintro e w2 ⟨rfl, hb2⟩
  have hs2 : _ ≤ w2.heap.size := hb2.size
  try simp at hs2
  have o_q20 : Own (w2) (w.heap.size) 0 (.int .i64 0) := ownJ; have q20 := o_q20.1; have f_q20 := o_q20.2; have o_q21 : Own (w2) (w.heap.size) 1 (.int .i64 0) := ownJ; have q21 := o_q21.1; have f_q21 := o_q21.2
  go_wp2_with fail
  refine (areBounded2 (y, y) (x, x) _ _ (by simp [go_sem]) (by simp [go_sem]) (by simp [go_sem]) (by simp [go_sem])).mono ?_
  rintro e w3 ⟨rfl, hb3⟩
  have hs3 : _ ≤ w3.heap.size := hb3.size
  try simp at hs3
  rw [B.out]
  have o_q30 : Own (w3) (w.heap.size) 0 (.int .i64 0) := ownJ; have q30 := o_q30.1; have f_q30 := o_q30.2; have o_q31 : Own (w3) (w.heap.size) 1 (.int .i64 0) := ownJ; have q31 := o_q31.1; have f_q31 := o_q31.2
  go_wp2_with fail
  refine (R.out _ (by repeat (first | (with_reducible assumption) | (with_reducible refine GloT.drew ?_) | (with_reducible refine GloT.kept ?_ (by assumption)) | (with_reducible refine GloT.alloc ?_ _)))).mono ?_
  rintro e w4 ⟨rfl, hb4⟩
  have hs4 : _ ≤ w4.heap.size := hb4.size
  try simp at hs4
  have o_q40 : Own (w4) (w.heap.size) 0 (.int .i64 0) := ownJ; have q40 := o_q40.1; have f_q40 := o_q40.2; have o_q41 : Own (w4) (w.heap.size) 1 (.int .i64 0) := ownJ; have q41 := o_q41.1; have f_q41 := o_q41.2
  go_wp2_with fail
  refine (U.out _).mono ?_
  rintro e w5 ⟨rfl, hb5⟩
  have hs5 : _ ≤ w5.heap.size := hb5.size
  try simp at hs5
  have o_q50 : Own (w5) (w.heap.size) 0 (.int .i64 0) := ownJ; have q50 := o_q50.1; have f_q50 := o_q50.2; have o_q51 : Own (w5) (w.heap.size) 1 (.int .i64 0) := ownJ; have q51 := o_q51.1; have f_q51 := o_q51.2
  go_wp2
  exact bodyPost_ret (v := .agg #[.int .i64 (z).1, .int .i64 (z).2]) (by simp [results, Tryz.results35, go_sem, q50, q51]) rfl ⟨rfl, belB⟩
theorem DirectionAt_any (y x : Int) (w : World) (hg : GloT w) : Calls Tryz.prog 35 #[.int .i64 y, .int .i64 x] w fun e w' =>
    e = .returned (.agg #[.int .i64 (dirA y x).1, .int .i64 (dirA y x).2]) ∧ Below w.heap.size w w' := by
  by_cases h : FixN y ∧ FixN x
  · by_cases z : y = 0 ∧ x = 0
    · rw [show dirA y x = whl from if_neg (fun k => k.2.2 z)]
      exact DirectionAt_zero y x h z.1 z.2 w
    · have d : DirN y x := ⟨h.1, h.2, z⟩
      by_cases p : y < 0
      · rw [show dirA y x = negI (dirU (-y) x) by unfold dirA; rw [if_pos d, if_pos p]]
        exact DirectionAt_neg y x d p w hg
      · rw [show dirA y x = dirU y x by unfold dirA; rw [if_pos d, if_neg p]]
        exact DirectionAt_pos y x d (by omega) w hg
  · rw [show dirA y x = whl from if_neg (fun k => h ⟨k.1, k.2.1⟩)]
    exact DirectionAt_no y x h w
theorem corners_A (y x : Iv) (h : (bnd y && bnd x) = true) (w : World) (hg : GloT w) : Calls Tryz.prog 134 #[.agg #[.int .i64 y.1, .int .i64 y.2], .agg #[.int .i64 x.1, .int .i64 x.2], .func (Fn.func 35) #[] #[]] w fun e w' =>
    e = .returned (.agg #[.int .i64 (hul4 (dirA y.1 x.1) (dirA y.1 x.2) (dirA y.2 x.1) (dirA y.2 x.2)).1, .int .i64 (hul4 (dirA y.1 x.1) (dirA y.1 x.2) (dirA y.2 x.1) (dirA y.2 x.2)).2]) ∧ Below w.heap.size w w' := by
  have B := Lib.hid h
  clear h
  obtain ⟨g2, g3⟩ := id hg
  have l1 : 1 < w.heap.size := World.block_lt_of_cell? _ _ g2
  go_enter Tryz.func134, Tryz.ntmps134
  go_wp2_with fail
  refine (areBounded2 y x _ _ (by simp [go_sem]) (by simp [go_sem]) (by simp [go_sem]) (by simp [go_sem])).mono ?_
  rintro e w1 ⟨rfl, hb1⟩
  have hs1 : _ ≤ w1.heap.size := hb1.size
  try simp at hs1
  rw [B.out]
  have o_qa10 : Own (w1) (w.heap.size) 0 (.int .i64 y.1) := ownJ; obtain ⟨qa10, f_qa10⟩ := o_qa10; have o_qa11 : Own (w1) (w.heap.size) 1 (.int .i64 y.2) := ownJ; obtain ⟨qa11, f_qa11⟩ := o_qa11
  have o_qb10 : Own (w1) (w.heap.size + 1) 0 (.int .i64 x.1) := ownJ; obtain ⟨qb10, f_qb10⟩ := o_qb10; have o_qb11 : Own (w1) (w.heap.size + 1) 1 (.int .i64 x.2) := ownJ; obtain ⟨qb11, f_qb11⟩ := o_qb11
  have o_qr10 : Own (w1) (w.heap.size + 1 + 1) 0 (.int .i64 0) := ownJ; obtain ⟨qr10, f_qr10⟩ := o_qr10; have o_qr11 : Own (w1) (w.heap.size + 1 + 1) 1 (.int .i64 0) := ownJ; obtain ⟨qr11, f_qr11⟩ := o_qr11
  obtain ⟨k2, k3⟩ : GloT w1 := (by repeat (first | (with_reducible assumption) | (with_reducible refine GloT.drew ?_) | (with_reducible refine GloT.kept ?_ (by assumption)) | (with_reducible refine GloT.alloc ?_ _)))
  have m1 : 1 < w1.heap.size := World.block_lt_of_cell? _ _ k2
  go_wp2_with fail
  obtain ⟨hlt2, hlt3, hlt4, hlt5, hlt6, hlt7, hlt8, hlt9, hlt10, hlt11⟩ := below_add; go_region_held3 (fun w' => w'.cell? ⟨w.heap.size, 0, none⟩ = some (.int .i64 y.1) ∧ w'.cell? ⟨w.heap.size, 1, none⟩ = some (.int .i64 y.2) ∧ w'.cell? ⟨w.heap.size + 1, 0, none⟩ = some (.int .i64 x.1) ∧ w'.cell? ⟨w.heap.size + 1, 1, none⟩ = some (.int .i64 x.2) ∧ w'.cell? ⟨1, 0, none⟩ = some (.int .i64 (-1)) ∧ w'.cell? ⟨1, 1, none⟩ = some (.int .i64 1) ∧ (w'.cell? ⟨w.heap.size + 1 + 1, 0, none⟩ = some (peek w' ⟨w.heap.size + 1 + 1, 0, none⟩) ∧ w'.frozen? ⟨w.heap.size + 1 + 1, 0, none⟩ = false) ∧ (w'.cell? ⟨w.heap.size + 1 + 1, 1, none⟩ = some (peek w' ⟨w.heap.size + 1 + 1, 1, none⟩) ∧ w'.frozen? ⟨w.heap.size + 1 + 1, 1, none⟩ = false)) (first | (with_reducible exact ((And.imp (cell_kept (by assumption)) (And.imp (cell_kept (by assumption)) (And.imp (cell_kept (by assumption)) (And.imp (cell_kept (by assumption)) (And.imp (cell_kept (by assumption)) (And.imp (cell_kept (by assumption)) (And.imp (pslot_kept (by assumption)) (pslot_kept (by assumption))))))))) (by assumption))) | (with_reducible exact ((And.imp (cell_alloc) (And.imp (cell_alloc) (And.imp (cell_alloc) (And.imp (cell_alloc) (And.imp (cell_alloc) (And.imp (cell_alloc) (And.imp (pslot_alloc) (pslot_alloc)))))))) (by assumption))) | (with_reducible exact ((And.imp (fun h => cell_far (by first | (simp; done) | (simp; omega) | (dsimp only; omega)) (cell_far (by first | (simp; done) | (simp; omega) | (dsimp only; omega)) h)) (And.imp (fun h => cell_far (by first | (simp; done) | (simp; omega) | (dsimp only; omega)) (cell_far (by first | (simp; done) | (simp; omega) | (dsimp only; omega)) h)) (And.imp (fun h => cell_far (by first | (simp; done) | (simp; omega) | (dsimp only; omega)) (cell_far (by first | (simp; done) | (simp; omega) | (dsimp only; omega)) h)) (And.imp (fun h => cell_far (by first | (simp; done) | (simp; omega) | (dsimp only; omega)) (cell_far (by first | (simp; done) | (simp; omega) | (dsimp only; omega)) h)) (And.imp (fun h => cell_far (by first | (simp; done) | (simp; omega) | (dsimp only; omega)) (cell_far (by first | (simp; done) | (simp; omega) | (dsimp only; omega)) h)) (And.imp (fun h => cell_far (by first | (simp; done) | (simp; omega) | (dsimp only; omega)) (cell_far (by first | (simp; done) | (simp; omega) | (dsimp only; omega)) h)) (And.imp (fun h => pslot_set (pslot_set h)) (fun h => pslot_set (pslot_set h))))))))) (by assumption))) | (refine ⟨?_, ?_, ?_, ?_, ?_, ?_, ?_, ?_⟩ <;> repeat (first | (with_reducible assumption) | (with_reducible refine cell_far (by first | (simp; done) | (simp; omega) | (dsimp only; omega)) ?_) | (with_reducible refine cell_drew ?_) | (with_reducible refine cell_drewN ?_) | (with_reducible refine cell_kept (by assumption) ?_) | (with_reducible exact pslot_of (by assumption) (by assumption)) | (with_reducible refine pslot_drew ?_) | (with_reducible refine pslot_kept (by assumption) ?_) | (with_reducible refine pslot_alloc ?_) | (simp [go_sem]; done) | (with_reducible refine cell_alloc ?_))) | (simp [go_sem, *]; done)) (first | (go_at_call 35; refine (DirectionAt_any _ _ _ (GloT.mk (by simp [go_sem, *]) (by simp [go_sem, *]))).mono ?_; rintro e w1 ⟨rfl, hb⟩; have hs : _ ≤ w1.heap.size := hb.size; (try simp at hs); obtain ⟨hc, hf, hl, hn, hm⟩ := behind hb) | (go_at_call 137; refine (hullQ (dirA y.1 x.1) (dirA y.1 x.2) (dirA y.2 x.1) (dirA y.2 x.2) _ _ (by simp [go_sem]) (by simp [go_sem]) (by simp [go_sem]) (by simp [go_sem]) (by simp [go_sem]) (by simp [go_sem])).mono ?_; rintro e w1 ⟨rfl, hb⟩; have hs : _ ≤ w1.heap.size := hb.size; (try simp at hs); obtain ⟨hc, hf, hl, hn, hm⟩ := behind hb))
  all_goals (go_wp2; have o_j0 : Own (w1) (w.heap.size + 1 + 1) 0 (.int .i64 0) := ownJ; obtain ⟨j0, f_j0⟩ := o_j0; have o_j1 : Own (w1) (w.heap.size + 1 + 1) 1 (.int .i64 0) := ownJ; obtain ⟨j1, f_j1⟩ := o_j1; exact bodyPost_ret (v := .agg #[.int .i64 (hul4 (dirA y.1 x.1) (dirA y.1 x.2) (dirA y.2 x.1) (dirA y.2 x.2)).1, .int .i64 (hul4 (dirA y.1 x.1) (dirA y.1 x.2) (dirA y.2 x.1) (dirA y.2 x.2)).2]) (by simp [results, Tryz.results134, go_sem, j0, j1]) rfl ⟨rfl, belB⟩)
theorem corners_A_no (y x : Iv) (h : (bnd y && bnd x) = false) (w : World) : Calls Tryz.prog 134 #[.agg #[.int .i64 y.1, .int .i64 y.2], .agg #[.int .i64 x.1, .int .i64 x.2], .func (Fn.func 35) #[] #[]] w fun e w' =>
    e = .returned (.agg #[.int .i64 (-1152921504606846976), .int .i64 1152921504606846976]) ∧ Below w.heap.size w w' := by
  have B := Lib.hid h
  clear h
  go_enter Tryz.func134, Tryz.ntmps134
  go_wp2_with fail
  refine (areBounded2 y x _ _ (by simp [go_sem]) (by simp [go_sem]) (by simp [go_sem]) (by simp [go_sem])).mono ?_
  rintro e w1 ⟨rfl, hb1⟩
  have hs1 : _ ≤ w1.heap.size := hb1.size
  try simp at hs1
  rw [B.out]
  have o_qr10 : Own (w1) (w.heap.size + 1 + 1) 0 (.int .i64 0) := ownJ; obtain ⟨qr10, f_qr10⟩ := o_qr10; have o_qr11 : Own (w1) (w.heap.size + 1 + 1) 1 (.int .i64 0) := ownJ; obtain ⟨qr11, f_qr11⟩ := o_qr11
  go_wp2_with fail
  refine (Whole_any _).mono ?_
  rintro e w2 ⟨rfl, hb2⟩
  have hs2 : _ ≤ w2.heap.size := hb2.size
  try simp at hs2
  have o_qr20 : Own (w2) (w.heap.size + 1 + 1) 0 (.int .i64 0) := ownJ; obtain ⟨qr20, f_qr20⟩ := o_qr20; have o_qr21 : Own (w2) (w.heap.size + 1 + 1) 1 (.int .i64 0) := ownJ; obtain ⟨qr21, f_qr21⟩ := o_qr21
  go_wp2
  exact bodyPost_ret (v := .agg #[.int .i64 (-1152921504606846976), .int .i64 1152921504606846976]) (by simp [results, Tryz.results134, go_sem, qr20, qr21]) rfl ⟨rfl, belB⟩
end Go.Proofs.YtmikjgbojknlnaaGreatDoor
