/- Contracts of directions of points and of boxes in the model. Conditions: numbers are int64. -/
import Derived.Test.YtmikjgbojknlnaaGreatDoorAtE
import Derived.Test.YtmikjgbojknlnaaGreatDoorAtF
import Derived.Test.YtmikjgbojknlnaaGreatDoorIvK
import Derived.Deep.RegionHeld3
import Derived.Outline
namespace Go.Proofs.YtmikjgbojknlnaaGreatDoor
open Go.ChangeShapes Go.WideShapes Go.ChangeAt Go.RowKit
set_option linter.unusedVariables false
set_option maxRecDepth 100000
set_option linter.unusedSimpArgs false
set_option maxHeartbeats 1000000
theorem sDirectionAt_no (y x : Int) (h : ¬ (FixN y ∧ FixN x)) (w : World) : Calls Tryz.prog 34 #[.int .i64 y, .int .i64 x] w fun e w' =>
    e = .returned (.agg #[.int .i64 (-1152921504606846976), .int .i64 1152921504606846976]) ∧ Below w.heap.size w w' := by
  by_cases c : FixN y
  · have FY := Lib.hid (fun w => l07Fix_yes y c w)
    have FX := Lib.hid (fun w => l07Fix_no x (fun k => h ⟨c, k⟩) w)
    clear h c
    go_enter Tryz.func34, Tryz.ntmps34
    go_wp2_with fail
    refine (FY.out _).mono ?_
    rintro e w1 ⟨rfl, hb1⟩
    have hs1 : _ ≤ w1.heap.size := hb1.size
    try simp at hs1
    have o_q10 : Own (w1) (w.heap.size) 0 (.int .i64 0) := ownJ; have q10 := o_q10.1; have f_q10 := o_q10.2; have o_q11 : Own (w1) (w.heap.size) 1 (.int .i64 0) := ownJ; have q11 := o_q11.1; have f_q11 := o_q11.2
    go_wp2_with fail
    refine (FX.out _).mono ?_
    rintro e w2 ⟨rfl, hb2⟩
    have hs2 : _ ≤ w2.heap.size := hb2.size
    try simp at hs2
    have o_q20 : Own (w2) (w.heap.size) 0 (.int .i64 0) := ownJ; have q20 := o_q20.1; have f_q20 := o_q20.2; have o_q21 : Own (w2) (w.heap.size) 1 (.int .i64 0) := ownJ; have q21 := o_q21.1; have f_q21 := o_q21.2
    go_wp2_with fail
    refine (sWhole_any _).mono ?_
    rintro e w3 ⟨rfl, hb3⟩
    have hs3 : _ ≤ w3.heap.size := hb3.size
    try simp at hs3
    have o_q30 : Own (w3) (w.heap.size) 0 (.int .i64 0) := ownJ; have q30 := o_q30.1; have f_q30 := o_q30.2; have o_q31 : Own (w3) (w.heap.size) 1 (.int .i64 0) := ownJ; have q31 := o_q31.1; have f_q31 := o_q31.2
    go_wp2
    exact bodyPost_ret (v := .agg #[.int .i64 (-1152921504606846976), .int .i64 1152921504606846976]) (by simp [results, Tryz.results34, go_sem, q30, q31]) rfl ⟨rfl, belB⟩
  · have FY := Lib.hid (fun w => l07Fix_no y c w)
    clear h c
    go_enter Tryz.func34, Tryz.ntmps34
    go_wp2_with fail
    refine (FY.out _).mono ?_
    rintro e w1 ⟨rfl, hb1⟩
    have hs1 : _ ≤ w1.heap.size := hb1.size
    try simp at hs1
    have o_q10 : Own (w1) (w.heap.size) 0 (.int .i64 0) := ownJ; have q10 := o_q10.1; have f_q10 := o_q10.2; have o_q11 : Own (w1) (w.heap.size) 1 (.int .i64 0) := ownJ; have q11 := o_q11.1; have f_q11 := o_q11.2
    go_wp2_with fail
    refine (sWhole_any _).mono ?_
    rintro e w2 ⟨rfl, hb2⟩
    have hs2 : _ ≤ w2.heap.size := hb2.size
    try simp at hs2
    have o_q20 : Own (w2) (w.heap.size) 0 (.int .i64 0) := ownJ; have q20 := o_q20.1; have f_q20 := o_q20.2; have o_q21 : Own (w2) (w.heap.size) 1 (.int .i64 0) := ownJ; have q21 := o_q21.1; have f_q21 := o_q21.2
    go_wp2
    exact bodyPost_ret (v := .agg #[.int .i64 (-1152921504606846976), .int .i64 1152921504606846976]) (by simp [results, Tryz.results34, go_sem, q20, q21]) rfl ⟨rfl, belB⟩
theorem sDirectionAt_zero (y x : Int) (d : FixN y ∧ FixN x) (hy : y = 0) (hx : x = 0) (w : World) : Calls Tryz.prog 34 #[.int .i64 y, .int .i64 x] w fun e w' =>
    e = .returned (.agg #[.int .i64 (-1152921504606846976), .int .i64 1152921504606846976]) ∧ Below w.heap.size w w' := by
  have FY := Lib.hid (fun w => l07Fix_yes y d.1 w)
  have FX := Lib.hid (fun w => l07Fix_yes x d.2 w)
  have ey : (y == 0) = true := by simp [hy]
  have ex : (x == 0) = true := by simp [hx]
  clear hy hx d
  go_enter Tryz.func34, Tryz.ntmps34
  go_wp2_with fail
  refine (FY.out _).mono ?_
  rintro e w1 ⟨rfl, hb1⟩
  have hs1 : _ ≤ w1.heap.size := hb1.size
  try simp at hs1
  have o_q10 : Own (w1) (w.heap.size) 0 (.int .i64 0) := ownJ; have q10 := o_q10.1; have f_q10 := o_q10.2; have o_q11 : Own (w1) (w.heap.size) 1 (.int .i64 0) := ownJ; have q11 := o_q11.1; have f_q11 := o_q11.2
  go_wp2_with fail
  refine (FX.out _).mono ?_
  rintro e w2 ⟨rfl, hb2⟩
  have hs2 : _ ≤ w2.heap.size := hb2.size
  try simp at hs2
  have o_q20 : Own (w2) (w.heap.size) 0 (.int .i64 0) := ownJ; have q20 := o_q20.1; have f_q20 := o_q20.2; have o_q21 : Own (w2) (w.heap.size) 1 (.int .i64 0) := ownJ; have q21 := o_q21.1; have f_q21 := o_q21.2
  go_wp2_with fail
  refine (sWhole_any _).mono ?_
  rintro e w3 ⟨rfl, hb3⟩
  have hs3 : _ ≤ w3.heap.size := hb3.size
  try simp at hs3
  have o_q30 : Own (w3) (w.heap.size) 0 (.int .i64 0) := ownJ; have q30 := o_q30.1; have f_q30 := o_q30.2; have o_q31 : Own (w3) (w.heap.size) 1 (.int .i64 0) := ownJ; have q31 := o_q31.1; have f_q31 := o_q31.2
  go_wp2
  exact bodyPost_ret (v := .agg #[.int .i64 (-1152921504606846976), .int .i64 1152921504606846976]) (by simp [results, Tryz.results34, go_sem, q30, q31]) rfl ⟨rfl, belB⟩
set_option maxHeartbeats 4000000 in
theorem sDirectionAt_dir (y x : Int) (d : DirN y x) (w : World) : Calls Tryz.prog 34 #[.int .i64 y, .int .i64 x] w fun e w' =>
    e = .returned (.agg #[.int .i64 (dirA y x).1, .int .i64 (dirA y x).2]) ∧ Below w.heap.size w w' := by
  have FY := Lib.hid (fun w => l07Fix_yes y d.1 w)
  have FX := Lib.hid (fun w => l07Fix_yes x d.2.1 w)
  obtain ⟨d1, d2, d3⟩ := id d
  unfold FixN at d1 d2
  have WX : IntKind.i64.wrap (-x) = -x := by rw [IntKind.wrap_i64]; omega
  have WY : IntKind.i64.wrap (-y) = -y := by rw [IntKind.wrap_i64]; omega
  by_cases s : y < 0
  · have s0 : decide (y < 0) = true := decide_eq_true (by omega)
    by_cases zx : x = 0
    · have ex : (x == 0) = true := by simp [zx]
      have ey : (y == 0) = false := by simp; omega
      have k1 : decide (x < -y) = true := decide_eq_true (by omega)
      have k2 : decide (y < x) = true := decide_eq_true (by omega)
      have T := Lib.hid (fun w => sTurnI_any (-1) w)
      have AX := Lib.hid (fun w => l05At_any x w)
      have AY := Lib.hid (fun w => l05At_any y w)
      have Q := Lib.hid (fun w => sDivI_any (x, x) (y, y) w)
      have A := Lib.hid (fun w => sAtanI_any (divI (x, x) (y, y)) w)
      have U := Lib.hid (fun w => sSubI_any (turI (-1)) (atnI (divI (x, x) (y, y))) w)
      have E := Lib.hid (dir_up d s ⟨by omega, by omega⟩)
      clear d d1 d2 d3 s zx
      generalize dirA y x = Y at *
      generalize subI (turI (-1)) (atnI (divI (x, x) (y, y))) = z at *
      generalize atnI (divI (x, x) (y, y)) = a at *
      generalize divI (x, x) (y, y) = q at *
      generalize turI (-1) = t at *
      go_enter Tryz.func34, Tryz.ntmps34
      go_wp2_with fail
      refine (FY.out _).mono ?_
      rintro e w1 ⟨rfl, hb1⟩
      have hs1 : _ ≤ w1.heap.size := hb1.size
      try simp at hs1
      have o_q10 : Own (w1) (w.heap.size) 0 (.int .i64 0) := ownJ; have q10 := o_q10.1; have f_q10 := o_q10.2; have o_q11 : Own (w1) (w.heap.size) 1 (.int .i64 0) := ownJ; have q11 := o_q11.1; have f_q11 := o_q11.2
      go_wp2_with fail
      refine (FX.out _).mono ?_
      rintro e w2 ⟨rfl, hb2⟩
      have hs2 : _ ≤ w2.heap.size := hb2.size
      try simp at hs2
      have o_q20 : Own (w2) (w.heap.size) 0 (.int .i64 0) := ownJ; have q20 := o_q20.1; have f_q20 := o_q20.2; have o_q21 : Own (w2) (w.heap.size) 1 (.int .i64 0) := ownJ; have q21 := o_q21.1; have f_q21 := o_q21.2
      go_wp2_with fail
      refine (T.out _).mono ?_
      rintro e w3 ⟨rfl, hb3⟩
      have hs3 : _ ≤ w3.heap.size := hb3.size
      try simp at hs3
      have o_q30 : Own (w3) (w.heap.size) 0 (.int .i64 0) := ownJ; have q30 := o_q30.1; have f_q30 := o_q30.2; have o_q31 : Own (w3) (w.heap.size) 1 (.int .i64 0) := ownJ; have q31 := o_q31.1; have f_q31 := o_q31.2
      go_wp2_with fail
      refine (AX.out _).mono ?_
      rintro e w4 ⟨rfl, hb4⟩
      have hs4 : _ ≤ w4.heap.size := hb4.size
      try simp at hs4
      have o_q40 : Own (w4) (w.heap.size) 0 (.int .i64 0) := ownJ; have q40 := o_q40.1; have f_q40 := o_q40.2; have o_q41 : Own (w4) (w.heap.size) 1 (.int .i64 0) := ownJ; have q41 := o_q41.1; have f_q41 := o_q41.2
      go_wp2_with fail
      refine (AY.out _).mono ?_
      rintro e w5 ⟨rfl, hb5⟩
      have hs5 : _ ≤ w5.heap.size := hb5.size
      try simp at hs5
      have o_q50 : Own (w5) (w.heap.size) 0 (.int .i64 0) := ownJ; have q50 := o_q50.1; have f_q50 := o_q50.2; have o_q51 : Own (w5) (w.heap.size) 1 (.int .i64 0) := ownJ; have q51 := o_q51.1; have f_q51 := o_q51.2
      go_wp2_with fail
      refine (Q.out _).mono ?_
      rintro e w6 ⟨rfl, hb6⟩
      have hs6 : _ ≤ w6.heap.size := hb6.size
      try simp at hs6
      have o_q60 : Own (w6) (w.heap.size) 0 (.int .i64 0) := ownJ; have q60 := o_q60.1; have f_q60 := o_q60.2; have o_q61 : Own (w6) (w.heap.size) 1 (.int .i64 0) := ownJ; have q61 := o_q61.1; have f_q61 := o_q61.2
      go_wp2_with fail
      refine (A.out _).mono ?_
      rintro e w7 ⟨rfl, hb7⟩
      have hs7 : _ ≤ w7.heap.size := hb7.size
      try simp at hs7
      have o_q70 : Own (w7) (w.heap.size) 0 (.int .i64 0) := ownJ; have q70 := o_q70.1; have f_q70 := o_q70.2; have o_q71 : Own (w7) (w.heap.size) 1 (.int .i64 0) := ownJ; have q71 := o_q71.1; have f_q71 := o_q71.2
      go_wp2_with fail
      refine (U.out _).mono ?_
      rintro e w8 ⟨rfl, hb8⟩
      have hs8 : _ ≤ w8.heap.size := hb8.size
      try simp at hs8
      have o_q80 : Own (w8) (w.heap.size) 0 (.int .i64 0) := ownJ; have q80 := o_q80.1; have f_q80 := o_q80.2; have o_q81 : Own (w8) (w.heap.size) 1 (.int .i64 0) := ownJ; have q81 := o_q81.1; have f_q81 := o_q81.2
      go_wp2
      exact bodyPost_ret (v := .agg #[.int .i64 (z).1, .int .i64 (z).2]) (by simp [results, Tryz.results34, go_sem, q80, q81]) rfl ⟨by rw [E.out], belB⟩
    · have ex : (x == 0) = false := by simpa using zx
      by_cases c : x < -y
      · by_cases c2 : -x < -y
        · have k1 : decide (x < -y) = true := decide_eq_true (by omega)
          have k2 : decide (y < x) = true := decide_eq_true (by omega)
          have T := Lib.hid (fun w => sTurnI_any (-1) w)
          have AX := Lib.hid (fun w => l05At_any x w)
          have AY := Lib.hid (fun w => l05At_any y w)
          have Q := Lib.hid (fun w => sDivI_any (x, x) (y, y) w)
          have A := Lib.hid (fun w => sAtanI_any (divI (x, x) (y, y)) w)
          have U := Lib.hid (fun w => sSubI_any (turI (-1)) (atnI (divI (x, x) (y, y))) w)
          have E := Lib.hid (dir_up d s ⟨by omega, by omega⟩)
          clear d d1 d2 d3 s c c2 zx
          generalize dirA y x = Y at *
          generalize subI (turI (-1)) (atnI (divI (x, x) (y, y))) = z at *
          generalize atnI (divI (x, x) (y, y)) = a at *
          generalize divI (x, x) (y, y) = q at *
          generalize turI (-1) = t at *
          go_enter Tryz.func34, Tryz.ntmps34
          go_wp2_with fail
          refine (FY.out _).mono ?_
          rintro e w1 ⟨rfl, hb1⟩
          have hs1 : _ ≤ w1.heap.size := hb1.size
          try simp at hs1
          have o_q10 : Own (w1) (w.heap.size) 0 (.int .i64 0) := ownJ; have q10 := o_q10.1; have f_q10 := o_q10.2; have o_q11 : Own (w1) (w.heap.size) 1 (.int .i64 0) := ownJ; have q11 := o_q11.1; have f_q11 := o_q11.2
          go_wp2_with fail
          refine (FX.out _).mono ?_
          rintro e w2 ⟨rfl, hb2⟩
          have hs2 : _ ≤ w2.heap.size := hb2.size
          try simp at hs2
          have o_q20 : Own (w2) (w.heap.size) 0 (.int .i64 0) := ownJ; have q20 := o_q20.1; have f_q20 := o_q20.2; have o_q21 : Own (w2) (w.heap.size) 1 (.int .i64 0) := ownJ; have q21 := o_q21.1; have f_q21 := o_q21.2
          go_wp2_with fail
          refine (T.out _).mono ?_
          rintro e w3 ⟨rfl, hb3⟩
          have hs3 : _ ≤ w3.heap.size := hb3.size
          try simp at hs3
          have o_q30 : Own (w3) (w.heap.size) 0 (.int .i64 0) := ownJ; have q30 := o_q30.1; have f_q30 := o_q30.2; have o_q31 : Own (w3) (w.heap.size) 1 (.int .i64 0) := ownJ; have q31 := o_q31.1; have f_q31 := o_q31.2
          go_wp2_with fail
          refine (AX.out _).mono ?_
          rintro e w4 ⟨rfl, hb4⟩
          have hs4 : _ ≤ w4.heap.size := hb4.size
          try simp at hs4
          have o_q40 : Own (w4) (w.heap.size) 0 (.int .i64 0) := ownJ; have q40 := o_q40.1; have f_q40 := o_q40.2; have o_q41 : Own (w4) (w.heap.size) 1 (.int .i64 0) := ownJ; have q41 := o_q41.1; have f_q41 := o_q41.2
          go_wp2_with fail
          refine (AY.out _).mono ?_
          rintro e w5 ⟨rfl, hb5⟩
          have hs5 : _ ≤ w5.heap.size := hb5.size
          try simp at hs5
          have o_q50 : Own (w5) (w.heap.size) 0 (.int .i64 0) := ownJ; have q50 := o_q50.1; have f_q50 := o_q50.2; have o_q51 : Own (w5) (w.heap.size) 1 (.int .i64 0) := ownJ; have q51 := o_q51.1; have f_q51 := o_q51.2
          go_wp2_with fail
          refine (Q.out _).mono ?_
          rintro e w6 ⟨rfl, hb6⟩
          have hs6 : _ ≤ w6.heap.size := hb6.size
          try simp at hs6
          have o_q60 : Own (w6) (w.heap.size) 0 (.int .i64 0) := ownJ; have q60 := o_q60.1; have f_q60 := o_q60.2; have o_q61 : Own (w6) (w.heap.size) 1 (.int .i64 0) := ownJ; have q61 := o_q61.1; have f_q61 := o_q61.2
          go_wp2_with fail
          refine (A.out _).mono ?_
          rintro e w7 ⟨rfl, hb7⟩
          have hs7 : _ ≤ w7.heap.size := hb7.size
          try simp at hs7
          have o_q70 : Own (w7) (w.heap.size) 0 (.int .i64 0) := ownJ; have q70 := o_q70.1; have f_q70 := o_q70.2; have o_q71 : Own (w7) (w.heap.size) 1 (.int .i64 0) := ownJ; have q71 := o_q71.1; have f_q71 := o_q71.2
          go_wp2_with fail
          refine (U.out _).mono ?_
          rintro e w8 ⟨rfl, hb8⟩
          have hs8 : _ ≤ w8.heap.size := hb8.size
          try simp at hs8
          have o_q80 : Own (w8) (w.heap.size) 0 (.int .i64 0) := ownJ; have q80 := o_q80.1; have f_q80 := o_q80.2; have o_q81 : Own (w8) (w.heap.size) 1 (.int .i64 0) := ownJ; have q81 := o_q81.1; have f_q81 := o_q81.2
          go_wp2
          exact bodyPost_ret (v := .agg #[.int .i64 (z).1, .int .i64 (z).2]) (by simp [results, Tryz.results34, go_sem, q80, q81]) rfl ⟨by rw [E.out], belB⟩
        · have k1 : decide (x < -y) = true := decide_eq_true (by omega)
          have k2 : decide (y < x) = false := decide_eq_false (by omega)
          have k3 : decide (0 < x) = false := decide_eq_false (by omega)
          have T := Lib.hid (fun w => sTurnI_any (-2) w)
          have AX := Lib.hid (fun w => l05At_any x w)
          have AY := Lib.hid (fun w => l05At_any y w)
          have Q := Lib.hid (fun w => sDivI_any (y, y) (x, x) w)
          have A := Lib.hid (fun w => sAtanI_any (divI (y, y) (x, x)) w)
          have U := Lib.hid (fun w => sAddI_any (atnI (divI (y, y) (x, x))) (turI (-2)) w)
          have E := Lib.hid (dir_left d s (by omega) (by omega))
          clear d d1 d2 d3 s c c2 zx
          generalize dirA y x = Y at *
          generalize addI (atnI (divI (y, y) (x, x))) (turI (-2)) = z at *
          generalize atnI (divI (y, y) (x, x)) = a at *
          generalize divI (y, y) (x, x) = q at *
          generalize turI (-2) = t at *
          go_enter Tryz.func34, Tryz.ntmps34
          go_wp2_with fail
          refine (FY.out _).mono ?_
          rintro e w1 ⟨rfl, hb1⟩
          have hs1 : _ ≤ w1.heap.size := hb1.size
          try simp at hs1
          have o_q10 : Own (w1) (w.heap.size) 0 (.int .i64 0) := ownJ; have q10 := o_q10.1; have f_q10 := o_q10.2; have o_q11 : Own (w1) (w.heap.size) 1 (.int .i64 0) := ownJ; have q11 := o_q11.1; have f_q11 := o_q11.2
          go_wp2_with fail
          refine (FX.out _).mono ?_
          rintro e w2 ⟨rfl, hb2⟩
          have hs2 : _ ≤ w2.heap.size := hb2.size
          try simp at hs2
          have o_q20 : Own (w2) (w.heap.size) 0 (.int .i64 0) := ownJ; have q20 := o_q20.1; have f_q20 := o_q20.2; have o_q21 : Own (w2) (w.heap.size) 1 (.int .i64 0) := ownJ; have q21 := o_q21.1; have f_q21 := o_q21.2
          go_wp2_with fail
          refine (AY.out _).mono ?_
          rintro e w3 ⟨rfl, hb3⟩
          have hs3 : _ ≤ w3.heap.size := hb3.size
          try simp at hs3
          have o_q30 : Own (w3) (w.heap.size) 0 (.int .i64 0) := ownJ; have q30 := o_q30.1; have f_q30 := o_q30.2; have o_q31 : Own (w3) (w.heap.size) 1 (.int .i64 0) := ownJ; have q31 := o_q31.1; have f_q31 := o_q31.2
          go_wp2_with fail
          refine (AX.out _).mono ?_
          rintro e w4 ⟨rfl, hb4⟩
          have hs4 : _ ≤ w4.heap.size := hb4.size
          try simp at hs4
          have o_q40 : Own (w4) (w.heap.size) 0 (.int .i64 0) := ownJ; have q40 := o_q40.1; have f_q40 := o_q40.2; have o_q41 : Own (w4) (w.heap.size) 1 (.int .i64 0) := ownJ; have q41 := o_q41.1; have f_q41 := o_q41.2
          go_wp2_with fail
          refine (Q.out _).mono ?_
          rintro e w5 ⟨rfl, hb5⟩
          have hs5 : _ ≤ w5.heap.size := hb5.size
          try simp at hs5
          have o_q50 : Own (w5) (w.heap.size) 0 (.int .i64 0) := ownJ; have q50 := o_q50.1; have f_q50 := o_q50.2; have o_q51 : Own (w5) (w.heap.size) 1 (.int .i64 0) := ownJ; have q51 := o_q51.1; have f_q51 := o_q51.2
          go_wp2_with fail
          refine (A.out _).mono ?_
          rintro e w6 ⟨rfl, hb6⟩
          have hs6 : _ ≤ w6.heap.size := hb6.size
          try simp at hs6
          have o_q60 : Own (w6) (w.heap.size) 0 (.int .i64 0) := ownJ; have q60 := o_q60.1; have f_q60 := o_q60.2; have o_q61 : Own (w6) (w.heap.size) 1 (.int .i64 0) := ownJ; have q61 := o_q61.1; have f_q61 := o_q61.2
          go_wp2_with fail
          refine (T.out _).mono ?_
          rintro e w7 ⟨rfl, hb7⟩
          have hs7 : _ ≤ w7.heap.size := hb7.size
          try simp at hs7
          have o_q70 : Own (w7) (w.heap.size) 0 (.int .i64 0) := ownJ; have q70 := o_q70.1; have f_q70 := o_q70.2; have o_q71 : Own (w7) (w.heap.size) 1 (.int .i64 0) := ownJ; have q71 := o_q71.1; have f_q71 := o_q71.2
          go_wp2_with fail
          refine (U.out _).mono ?_
          rintro e w8 ⟨rfl, hb8⟩
          have hs8 : _ ≤ w8.heap.size := hb8.size
          try simp at hs8
          have o_q80 : Own (w8) (w.heap.size) 0 (.int .i64 0) := ownJ; have q80 := o_q80.1; have f_q80 := o_q80.2; have o_q81 : Own (w8) (w.heap.size) 1 (.int .i64 0) := ownJ; have q81 := o_q81.1; have f_q81 := o_q81.2
          go_wp2
          exact bodyPost_ret (v := .agg #[.int .i64 (z).1, .int .i64 (z).2]) (by simp [results, Tryz.results34, go_sem, q80, q81]) rfl ⟨by rw [E.out], belB⟩
      · by_cases c3 : 0 < x
        · have k1 : decide (x < -y) = false := decide_eq_false (by omega)
          have k3 : decide (0 < x) = true := decide_eq_true (by omega)
          have AX := Lib.hid (fun w => l05At_any x w)
          have AY := Lib.hid (fun w => l05At_any y w)
          have Q := Lib.hid (fun w => sDivI_any (y, y) (x, x) w)
          have A := Lib.hid (fun w => sAtanI_any (divI (y, y) (x, x)) w)
          have E := Lib.hid (dir_right d s (by omega) (by omega))
          clear d d1 d2 d3 s c c3 zx
          generalize dirA y x = Y at *
          generalize atnI (divI (y, y) (x, x)) = z at *
          generalize divI (y, y) (x, x) = q at *
          go_enter Tryz.func34, Tryz.ntmps34
          go_wp2_with fail
          refine (FY.out _).mono ?_
          rintro e w1 ⟨rfl, hb1⟩
          have hs1 : _ ≤ w1.heap.size := hb1.size
          try simp at hs1
          have o_q10 : Own (w1) (w.heap.size) 0 (.int .i64 0) := ownJ; have q10 := o_q10.1; have f_q10 := o_q10.2; have o_q11 : Own (w1) (w.heap.size) 1 (.int .i64 0) := ownJ; have q11 := o_q11.1; have f_q11 := o_q11.2
          go_wp2_with fail
          refine (FX.out _).mono ?_
          rintro e w2 ⟨rfl, hb2⟩
          have hs2 : _ ≤ w2.heap.size := hb2.size
          try simp at hs2
          have o_q20 : Own (w2) (w.heap.size) 0 (.int .i64 0) := ownJ; have q20 := o_q20.1; have f_q20 := o_q20.2; have o_q21 : Own (w2) (w.heap.size) 1 (.int .i64 0) := ownJ; have q21 := o_q21.1; have f_q21 := o_q21.2
          go_wp2_with fail
          refine (AY.out _).mono ?_
          rintro e w3 ⟨rfl, hb3⟩
          have hs3 : _ ≤ w3.heap.size := hb3.size
          try simp at hs3
          have o_q30 : Own (w3) (w.heap.size) 0 (.int .i64 0) := ownJ; have q30 := o_q30.1; have f_q30 := o_q30.2; have o_q31 : Own (w3) (w.heap.size) 1 (.int .i64 0) := ownJ; have q31 := o_q31.1; have f_q31 := o_q31.2
          go_wp2_with fail
          refine (AX.out _).mono ?_
          rintro e w4 ⟨rfl, hb4⟩
          have hs4 : _ ≤ w4.heap.size := hb4.size
          try simp at hs4
          have o_q40 : Own (w4) (w.heap.size) 0 (.int .i64 0) := ownJ; have q40 := o_q40.1; have f_q40 := o_q40.2; have o_q41 : Own (w4) (w.heap.size) 1 (.int .i64 0) := ownJ; have q41 := o_q41.1; have f_q41 := o_q41.2
          go_wp2_with fail
          refine (Q.out _).mono ?_
          rintro e w5 ⟨rfl, hb5⟩
          have hs5 : _ ≤ w5.heap.size := hb5.size
          try simp at hs5
          have o_q50 : Own (w5) (w.heap.size) 0 (.int .i64 0) := ownJ; have q50 := o_q50.1; have f_q50 := o_q50.2; have o_q51 : Own (w5) (w.heap.size) 1 (.int .i64 0) := ownJ; have q51 := o_q51.1; have f_q51 := o_q51.2
          go_wp2_with fail
          refine (A.out _).mono ?_
          rintro e w6 ⟨rfl, hb6⟩
          have hs6 : _ ≤ w6.heap.size := hb6.size
          try simp at hs6
          have o_q60 : Own (w6) (w.heap.size) 0 (.int .i64 0) := ownJ; have q60 := o_q60.1; have f_q60 := o_q60.2; have o_q61 : Own (w6) (w.heap.size) 1 (.int .i64 0) := ownJ; have q61 := o_q61.1; have f_q61 := o_q61.2
          go_wp2
          exact bodyPost_ret (v := .agg #[.int .i64 (z).1, .int .i64 (z).2]) (by simp [results, Tryz.results34, go_sem, q60, q61]) rfl ⟨by rw [E.out], belB⟩
        · exfalso; omega
  · have s0 : decide (y < 0) = false := decide_eq_false (by omega)
    by_cases zx : x = 0
    · have ex : (x == 0) = true := by simp [zx]
      have ey : (y == 0) = false := by simp; omega
      have k1 : decide (x < y) = true := decide_eq_true (by omega)
      have k2 : decide (-x < y) = true := decide_eq_true (by omega)
      have T := Lib.hid (fun w => sTurnI_any (1) w)
      have AX := Lib.hid (fun w => l05At_any x w)
      have AY := Lib.hid (fun w => l05At_any y w)
      have Q := Lib.hid (fun w => sDivI_any (x, x) (y, y) w)
      have A := Lib.hid (fun w => sAtanI_any (divI (x, x) (y, y)) w)
      have U := Lib.hid (fun w => sSubI_any (turI (1)) (atnI (divI (x, x) (y, y))) w)
      have E := Lib.hid (dir_up' d s ⟨by omega, by omega⟩)
      clear d d1 d2 d3 s zx
      generalize dirA y x = Y at *
      generalize subI (turI (1)) (atnI (divI (x, x) (y, y))) = z at *
      generalize atnI (divI (x, x) (y, y)) = a at *
      generalize divI (x, x) (y, y) = q at *
      generalize turI (1) = t at *
      go_enter Tryz.func34, Tryz.ntmps34
      go_wp2_with fail
      refine (FY.out _).mono ?_
      rintro e w1 ⟨rfl, hb1⟩
      have hs1 : _ ≤ w1.heap.size := hb1.size
      try simp at hs1
      have o_q10 : Own (w1) (w.heap.size) 0 (.int .i64 0) := ownJ; have q10 := o_q10.1; have f_q10 := o_q10.2; have o_q11 : Own (w1) (w.heap.size) 1 (.int .i64 0) := ownJ; have q11 := o_q11.1; have f_q11 := o_q11.2
      go_wp2_with fail
      refine (FX.out _).mono ?_
      rintro e w2 ⟨rfl, hb2⟩
      have hs2 : _ ≤ w2.heap.size := hb2.size
      try simp at hs2
      have o_q20 : Own (w2) (w.heap.size) 0 (.int .i64 0) := ownJ; have q20 := o_q20.1; have f_q20 := o_q20.2; have o_q21 : Own (w2) (w.heap.size) 1 (.int .i64 0) := ownJ; have q21 := o_q21.1; have f_q21 := o_q21.2
      go_wp2_with fail
      refine (T.out _).mono ?_
      rintro e w3 ⟨rfl, hb3⟩
      have hs3 : _ ≤ w3.heap.size := hb3.size
      try simp at hs3
      have o_q30 : Own (w3) (w.heap.size) 0 (.int .i64 0) := ownJ; have q30 := o_q30.1; have f_q30 := o_q30.2; have o_q31 : Own (w3) (w.heap.size) 1 (.int .i64 0) := ownJ; have q31 := o_q31.1; have f_q31 := o_q31.2
      go_wp2_with fail
      refine (AX.out _).mono ?_
      rintro e w4 ⟨rfl, hb4⟩
      have hs4 : _ ≤ w4.heap.size := hb4.size
      try simp at hs4
      have o_q40 : Own (w4) (w.heap.size) 0 (.int .i64 0) := ownJ; have q40 := o_q40.1; have f_q40 := o_q40.2; have o_q41 : Own (w4) (w.heap.size) 1 (.int .i64 0) := ownJ; have q41 := o_q41.1; have f_q41 := o_q41.2
      go_wp2_with fail
      refine (AY.out _).mono ?_
      rintro e w5 ⟨rfl, hb5⟩
      have hs5 : _ ≤ w5.heap.size := hb5.size
      try simp at hs5
      have o_q50 : Own (w5) (w.heap.size) 0 (.int .i64 0) := ownJ; have q50 := o_q50.1; have f_q50 := o_q50.2; have o_q51 : Own (w5) (w.heap.size) 1 (.int .i64 0) := ownJ; have q51 := o_q51.1; have f_q51 := o_q51.2
      go_wp2_with fail
      refine (Q.out _).mono ?_
      rintro e w6 ⟨rfl, hb6⟩
      have hs6 : _ ≤ w6.heap.size := hb6.size
      try simp at hs6
      have o_q60 : Own (w6) (w.heap.size) 0 (.int .i64 0) := ownJ; have q60 := o_q60.1; have f_q60 := o_q60.2; have o_q61 : Own (w6) (w.heap.size) 1 (.int .i64 0) := ownJ; have q61 := o_q61.1; have f_q61 := o_q61.2
      go_wp2_with fail
      refine (A.out _).mono ?_
      rintro e w7 ⟨rfl, hb7⟩
      have hs7 : _ ≤ w7.heap.size := hb7.size
      try simp at hs7
      have o_q70 : Own (w7) (w.heap.size) 0 (.int .i64 0) := ownJ; have q70 := o_q70.1; have f_q70 := o_q70.2; have o_q71 : Own (w7) (w.heap.size) 1 (.int .i64 0) := ownJ; have q71 := o_q71.1; have f_q71 := o_q71.2
      go_wp2_with fail
      refine (U.out _).mono ?_
      rintro e w8 ⟨rfl, hb8⟩
      have hs8 : _ ≤ w8.heap.size := hb8.size
      try simp at hs8
      have o_q80 : Own (w8) (w.heap.size) 0 (.int .i64 0) := ownJ; have q80 := o_q80.1; have f_q80 := o_q80.2; have o_q81 : Own (w8) (w.heap.size) 1 (.int .i64 0) := ownJ; have q81 := o_q81.1; have f_q81 := o_q81.2
      go_wp2
      exact bodyPost_ret (v := .agg #[.int .i64 (z).1, .int .i64 (z).2]) (by simp [results, Tryz.results34, go_sem, q80, q81]) rfl ⟨by rw [E.out], belB⟩
    · have ex : (x == 0) = false := by simpa using zx
      by_cases c : x < y
      · by_cases c2 : -x < y
        · have k1 : decide (x < y) = true := decide_eq_true (by omega)
          have k2 : decide (-x < y) = true := decide_eq_true (by omega)
          have T := Lib.hid (fun w => sTurnI_any (1) w)
          have AX := Lib.hid (fun w => l05At_any x w)
          have AY := Lib.hid (fun w => l05At_any y w)
          have Q := Lib.hid (fun w => sDivI_any (x, x) (y, y) w)
          have A := Lib.hid (fun w => sAtanI_any (divI (x, x) (y, y)) w)
          have U := Lib.hid (fun w => sSubI_any (turI (1)) (atnI (divI (x, x) (y, y))) w)
          have E := Lib.hid (dir_up' d s ⟨by omega, by omega⟩)
          clear d d1 d2 d3 s c c2 zx
          generalize dirA y x = Y at *
          generalize subI (turI (1)) (atnI (divI (x, x) (y, y))) = z at *
          generalize atnI (divI (x, x) (y, y)) = a at *
          generalize divI (x, x) (y, y) = q at *
          generalize turI (1) = t at *
          go_enter Tryz.func34, Tryz.ntmps34
          go_wp2_with fail
          refine (FY.out _).mono ?_
          rintro e w1 ⟨rfl, hb1⟩
          have hs1 : _ ≤ w1.heap.size := hb1.size
          try simp at hs1
          have o_q10 : Own (w1) (w.heap.size) 0 (.int .i64 0) := ownJ; have q10 := o_q10.1; have f_q10 := o_q10.2; have o_q11 : Own (w1) (w.heap.size) 1 (.int .i64 0) := ownJ; have q11 := o_q11.1; have f_q11 := o_q11.2
          go_wp2_with fail
          refine (FX.out _).mono ?_
          rintro e w2 ⟨rfl, hb2⟩
          have hs2 : _ ≤ w2.heap.size := hb2.size
          try simp at hs2
          have o_q20 : Own (w2) (w.heap.size) 0 (.int .i64 0) := ownJ; have q20 := o_q20.1; have f_q20 := o_q20.2; have o_q21 : Own (w2) (w.heap.size) 1 (.int .i64 0) := ownJ; have q21 := o_q21.1; have f_q21 := o_q21.2
          go_wp2_with fail
          refine (T.out _).mono ?_
          rintro e w3 ⟨rfl, hb3⟩
          have hs3 : _ ≤ w3.heap.size := hb3.size
          try simp at hs3
          have o_q30 : Own (w3) (w.heap.size) 0 (.int .i64 0) := ownJ; have q30 := o_q30.1; have f_q30 := o_q30.2; have o_q31 : Own (w3) (w.heap.size) 1 (.int .i64 0) := ownJ; have q31 := o_q31.1; have f_q31 := o_q31.2
          go_wp2_with fail
          refine (AX.out _).mono ?_
          rintro e w4 ⟨rfl, hb4⟩
          have hs4 : _ ≤ w4.heap.size := hb4.size
          try simp at hs4
          have o_q40 : Own (w4) (w.heap.size) 0 (.int .i64 0) := ownJ; have q40 := o_q40.1; have f_q40 := o_q40.2; have o_q41 : Own (w4) (w.heap.size) 1 (.int .i64 0) := ownJ; have q41 := o_q41.1; have f_q41 := o_q41.2
          go_wp2_with fail
          refine (AY.out _).mono ?_
          rintro e w5 ⟨rfl, hb5⟩
          have hs5 : _ ≤ w5.heap.size := hb5.size
          try simp at hs5
          have o_q50 : Own (w5) (w.heap.size) 0 (.int .i64 0) := ownJ; have q50 := o_q50.1; have f_q50 := o_q50.2; have o_q51 : Own (w5) (w.heap.size) 1 (.int .i64 0) := ownJ; have q51 := o_q51.1; have f_q51 := o_q51.2
          go_wp2_with fail
          refine (Q.out _).mono ?_
          rintro e w6 ⟨rfl, hb6⟩
          have hs6 : _ ≤ w6.heap.size := hb6.size
          try simp at hs6
          have o_q60 : Own (w6) (w.heap.size) 0 (.int .i64 0) := ownJ; have q60 := o_q60.1; have f_q60 := o_q60.2; have o_q61 : Own (w6) (w.heap.size) 1 (.int .i64 0) := ownJ; have q61 := o_q61.1; have f_q61 := o_q61.2
          go_wp2_with fail
          refine (A.out _).mono ?_
          rintro e w7 ⟨rfl, hb7⟩
          have hs7 : _ ≤ w7.heap.size := hb7.size
          try simp at hs7
          have o_q70 : Own (w7) (w.heap.size) 0 (.int .i64 0) := ownJ; have q70 := o_q70.1; have f_q70 := o_q70.2; have o_q71 : Own (w7) (w.heap.size) 1 (.int .i64 0) := ownJ; have q71 := o_q71.1; have f_q71 := o_q71.2
          go_wp2_with fail
          refine (U.out _).mono ?_
          rintro e w8 ⟨rfl, hb8⟩
          have hs8 : _ ≤ w8.heap.size := hb8.size
          try simp at hs8
          have o_q80 : Own (w8) (w.heap.size) 0 (.int .i64 0) := ownJ; have q80 := o_q80.1; have f_q80 := o_q80.2; have o_q81 : Own (w8) (w.heap.size) 1 (.int .i64 0) := ownJ; have q81 := o_q81.1; have f_q81 := o_q81.2
          go_wp2
          exact bodyPost_ret (v := .agg #[.int .i64 (z).1, .int .i64 (z).2]) (by simp [results, Tryz.results34, go_sem, q80, q81]) rfl ⟨by rw [E.out], belB⟩
        · have k1 : decide (x < y) = true := decide_eq_true (by omega)
          have k2 : decide (-x < y) = false := decide_eq_false (by omega)
          have k3 : decide (0 < x) = false := decide_eq_false (by omega)
          have T := Lib.hid (fun w => sTurnI_any (2) w)
          have AX := Lib.hid (fun w => l05At_any x w)
          have AY := Lib.hid (fun w => l05At_any y w)
          have Q := Lib.hid (fun w => sDivI_any (y, y) (x, x) w)
          have A := Lib.hid (fun w => sAtanI_any (divI (y, y) (x, x)) w)
          have U := Lib.hid (fun w => sAddI_any (atnI (divI (y, y) (x, x))) (turI (2)) w)
          have E := Lib.hid (dir_left' d s (by omega) (by omega))
          clear d d1 d2 d3 s c c2 zx
          generalize dirA y x = Y at *
          generalize addI (atnI (divI (y, y) (x, x))) (turI (2)) = z at *
          generalize atnI (divI (y, y) (x, x)) = a at *
          generalize divI (y, y) (x, x) = q at *
          generalize turI (2) = t at *
          go_enter Tryz.func34, Tryz.ntmps34
          go_wp2_with fail
          refine (FY.out _).mono ?_
          rintro e w1 ⟨rfl, hb1⟩
          have hs1 : _ ≤ w1.heap.size := hb1.size
          try simp at hs1
          have o_q10 : Own (w1) (w.heap.size) 0 (.int .i64 0) := ownJ; have q10 := o_q10.1; have f_q10 := o_q10.2; have o_q11 : Own (w1) (w.heap.size) 1 (.int .i64 0) := ownJ; have q11 := o_q11.1; have f_q11 := o_q11.2
          go_wp2_with fail
          refine (FX.out _).mono ?_
          rintro e w2 ⟨rfl, hb2⟩
          have hs2 : _ ≤ w2.heap.size := hb2.size
          try simp at hs2
          have o_q20 : Own (w2) (w.heap.size) 0 (.int .i64 0) := ownJ; have q20 := o_q20.1; have f_q20 := o_q20.2; have o_q21 : Own (w2) (w.heap.size) 1 (.int .i64 0) := ownJ; have q21 := o_q21.1; have f_q21 := o_q21.2
          go_wp2_with fail
          refine (AY.out _).mono ?_
          rintro e w3 ⟨rfl, hb3⟩
          have hs3 : _ ≤ w3.heap.size := hb3.size
          try simp at hs3
          have o_q30 : Own (w3) (w.heap.size) 0 (.int .i64 0) := ownJ; have q30 := o_q30.1; have f_q30 := o_q30.2; have o_q31 : Own (w3) (w.heap.size) 1 (.int .i64 0) := ownJ; have q31 := o_q31.1; have f_q31 := o_q31.2
          go_wp2_with fail
          refine (AX.out _).mono ?_
          rintro e w4 ⟨rfl, hb4⟩
          have hs4 : _ ≤ w4.heap.size := hb4.size
          try simp at hs4
          have o_q40 : Own (w4) (w.heap.size) 0 (.int .i64 0) := ownJ; have q40 := o_q40.1; have f_q40 := o_q40.2; have o_q41 : Own (w4) (w.heap.size) 1 (.int .i64 0) := ownJ; have q41 := o_q41.1; have f_q41 := o_q41.2
          go_wp2_with fail
          refine (Q.out _).mono ?_
          rintro e w5 ⟨rfl, hb5⟩
          have hs5 : _ ≤ w5.heap.size := hb5.size
          try simp at hs5
          have o_q50 : Own (w5) (w.heap.size) 0 (.int .i64 0) := ownJ; have q50 := o_q50.1; have f_q50 := o_q50.2; have o_q51 : Own (w5) (w.heap.size) 1 (.int .i64 0) := ownJ; have q51 := o_q51.1; have f_q51 := o_q51.2
          go_wp2_with fail
          refine (A.out _).mono ?_
          rintro e w6 ⟨rfl, hb6⟩
          have hs6 : _ ≤ w6.heap.size := hb6.size
          try simp at hs6
          have o_q60 : Own (w6) (w.heap.size) 0 (.int .i64 0) := ownJ; have q60 := o_q60.1; have f_q60 := o_q60.2; have o_q61 : Own (w6) (w.heap.size) 1 (.int .i64 0) := ownJ; have q61 := o_q61.1; have f_q61 := o_q61.2
          go_wp2_with fail
          refine (T.out _).mono ?_
          rintro e w7 ⟨rfl, hb7⟩
          have hs7 : _ ≤ w7.heap.size := hb7.size
          try simp at hs7
          have o_q70 : Own (w7) (w.heap.size) 0 (.int .i64 0) := ownJ; have q70 := o_q70.1; have f_q70 := o_q70.2; have o_q71 : Own (w7) (w.heap.size) 1 (.int .i64 0) := ownJ; have q71 := o_q71.1; have f_q71 := o_q71.2
          go_wp2_with fail
          refine (U.out _).mono ?_
          rintro e w8 ⟨rfl, hb8⟩
          have hs8 : _ ≤ w8.heap.size := hb8.size
          try simp at hs8
          have o_q80 : Own (w8) (w.heap.size) 0 (.int .i64 0) := ownJ; have q80 := o_q80.1; have f_q80 := o_q80.2; have o_q81 : Own (w8) (w.heap.size) 1 (.int .i64 0) := ownJ; have q81 := o_q81.1; have f_q81 := o_q81.2
          go_wp2
          exact bodyPost_ret (v := .agg #[.int .i64 (z).1, .int .i64 (z).2]) (by simp [results, Tryz.results34, go_sem, q80, q81]) rfl ⟨by rw [E.out], belB⟩
      · by_cases c3 : 0 < x
        · have k1 : decide (x < y) = false := decide_eq_false (by omega)
          have k3 : decide (0 < x) = true := decide_eq_true (by omega)
          have AX := Lib.hid (fun w => l05At_any x w)
          have AY := Lib.hid (fun w => l05At_any y w)
          have Q := Lib.hid (fun w => sDivI_any (y, y) (x, x) w)
          have A := Lib.hid (fun w => sAtanI_any (divI (y, y) (x, x)) w)
          have E := Lib.hid (dir_right' d s (by omega) (by omega))
          clear d d1 d2 d3 s c c3 zx
          generalize dirA y x = Y at *
          generalize atnI (divI (y, y) (x, x)) = z at *
          generalize divI (y, y) (x, x) = q at *
          go_enter Tryz.func34, Tryz.ntmps34
          go_wp2_with fail
          refine (FY.out _).mono ?_
          rintro e w1 ⟨rfl, hb1⟩
          have hs1 : _ ≤ w1.heap.size := hb1.size
          try simp at hs1
          have o_q10 : Own (w1) (w.heap.size) 0 (.int .i64 0) := ownJ; have q10 := o_q10.1; have f_q10 := o_q10.2; have o_q11 : Own (w1) (w.heap.size) 1 (.int .i64 0) := ownJ; have q11 := o_q11.1; have f_q11 := o_q11.2
          go_wp2_with fail
          refine (FX.out _).mono ?_
          rintro e w2 ⟨rfl, hb2⟩
          have hs2 : _ ≤ w2.heap.size := hb2.size
          try simp at hs2
          have o_q20 : Own (w2) (w.heap.size) 0 (.int .i64 0) := ownJ; have q20 := o_q20.1; have f_q20 := o_q20.2; have o_q21 : Own (w2) (w.heap.size) 1 (.int .i64 0) := ownJ; have q21 := o_q21.1; have f_q21 := o_q21.2
          go_wp2_with fail
          refine (AY.out _).mono ?_
          rintro e w3 ⟨rfl, hb3⟩
          have hs3 : _ ≤ w3.heap.size := hb3.size
          try simp at hs3
          have o_q30 : Own (w3) (w.heap.size) 0 (.int .i64 0) := ownJ; have q30 := o_q30.1; have f_q30 := o_q30.2; have o_q31 : Own (w3) (w.heap.size) 1 (.int .i64 0) := ownJ; have q31 := o_q31.1; have f_q31 := o_q31.2
          go_wp2_with fail
          refine (AX.out _).mono ?_
          rintro e w4 ⟨rfl, hb4⟩
          have hs4 : _ ≤ w4.heap.size := hb4.size
          try simp at hs4
          have o_q40 : Own (w4) (w.heap.size) 0 (.int .i64 0) := ownJ; have q40 := o_q40.1; have f_q40 := o_q40.2; have o_q41 : Own (w4) (w.heap.size) 1 (.int .i64 0) := ownJ; have q41 := o_q41.1; have f_q41 := o_q41.2
          go_wp2_with fail
          refine (Q.out _).mono ?_
          rintro e w5 ⟨rfl, hb5⟩
          have hs5 : _ ≤ w5.heap.size := hb5.size
          try simp at hs5
          have o_q50 : Own (w5) (w.heap.size) 0 (.int .i64 0) := ownJ; have q50 := o_q50.1; have f_q50 := o_q50.2; have o_q51 : Own (w5) (w.heap.size) 1 (.int .i64 0) := ownJ; have q51 := o_q51.1; have f_q51 := o_q51.2
          go_wp2_with fail
          refine (A.out _).mono ?_
          rintro e w6 ⟨rfl, hb6⟩
          have hs6 : _ ≤ w6.heap.size := hb6.size
          try simp at hs6
          have o_q60 : Own (w6) (w.heap.size) 0 (.int .i64 0) := ownJ; have q60 := o_q60.1; have f_q60 := o_q60.2; have o_q61 : Own (w6) (w.heap.size) 1 (.int .i64 0) := ownJ; have q61 := o_q61.1; have f_q61 := o_q61.2
          go_wp2
          exact bodyPost_ret (v := .agg #[.int .i64 (z).1, .int .i64 (z).2]) (by simp [results, Tryz.results34, go_sem, q60, q61]) rfl ⟨by rw [E.out], belB⟩
        · exfalso; omega
theorem sDirectionAt_any (y x : Int) (w : World) : Calls Tryz.prog 34 #[.int .i64 y, .int .i64 x] w fun e w' =>
    e = .returned (.agg #[.int .i64 (dirA y x).1, .int .i64 (dirA y x).2]) ∧ Below w.heap.size w w' := by
  by_cases h : FixN y ∧ FixN x
  · by_cases z : y = 0 ∧ x = 0
    · rw [show dirA y x = whl from if_neg (fun k => k.2.2 z)]
      exact sDirectionAt_zero y x h z.1 z.2 w
    · exact sDirectionAt_dir y x ⟨h.1, h.2, z⟩ w
  · rw [show dirA y x = whl from if_neg (fun k => h ⟨k.1, k.2.1⟩)]
    exact sDirectionAt_no y x h w
theorem law_DirectionAt (y x : Int) (hy : In64 y) (hx : In64 x) (w : World) (hg : GloT w) : Calls Tryz.prog 11 #[.int .i64 y, .int .i64 x] w fun e w' =>
    e = .returned (.bool true) ∧ Below w.heap.size w w' := by
  have SP := Lib.hid (fun w => sDirectionAt_any y x w)
  have IM := Lib.hid (fun w hg => DirectionAt_any y x w hg)
  generalize dirA y x = r at *
  go_enter Tryz.func11, Tryz.ntmps11
  go_wp2_with fail
  refine (SP.out _).mono ?_
  rintro e w1 ⟨rfl, hb1⟩
  have hs1 : _ ≤ w1.heap.size := hb1.size
  try simp at hs1
  go_wp2_with fail
  refine (IM.out _ (by repeat (first | (with_reducible assumption) | (with_reducible refine GloT.drew ?_) | (with_reducible refine GloT.kept ?_ (by assumption)) | (with_reducible refine GloT.alloc ?_ _)))).mono ?_
  rintro e w2 ⟨rfl, hb2⟩
  have hs2 : _ ≤ w2.heap.size := hb2.size
  try simp at hs2
  have o_g20 : Own (w2) (w1.heap.size) 0 (.int .i64 r.1) := ownJ; obtain ⟨g20, f_g20⟩ := o_g20; have o_g21 : Own (w2) (w1.heap.size) 1 (.int .i64 r.2) := ownJ; obtain ⟨g21, f_g21⟩ := o_g21
  have lg2 : w1.heap.size < w2.heap.size := World.block_lt_of_cell? _ _ g20
  have ng2 : ¬ w1.heap.size = w2.heap.size := Nat.ne_of_lt lg2
  have mg2 : ¬ w2.heap.size = w1.heap.size := Nat.ne_of_gt lg2
  go_wp2_with fail
  refine (eqInterval_same _ _ _).mono ?_
  rintro e w3 ⟨rfl, hb3⟩
  have hs3 : _ ≤ w3.heap.size := hb3.size
  try simp at hs3
  go_wp2
  go_ret
  exact ⟨rfl, belB⟩
end Go.Proofs.YtmikjgbojknlnaaGreatDoor
