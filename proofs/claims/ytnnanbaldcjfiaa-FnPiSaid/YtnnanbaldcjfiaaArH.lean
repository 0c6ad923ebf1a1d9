/- Contracts of ArcCotangent, MachinPi and EulerPi, program and model. Conditions: numbers are int64. -/
import Derived.Test.YtnnanbaldcjfiaaArG
import Derived.Test.YtnnanbaldcjfiaaArC
import Derived.Test.YtnnanbaldcjfiaaIvD
import Derived.Test.YtnnanbaldcjfiaaIvE
import Derived.Test.YtnnanbaldcjfiaaIvF
import Derived.Test.YtnnanbaldcjfiaaIvW
import Derived.Test.YtnnanbaldcjfiaaIvN
import Derived.Test.YtnnanbaldcjfiaaIvM
import Derived.Outline
namespace Go.Proofs.Ytnnanbaldcjfiaa
open Go.ChangeShapes Go.WideShapes Go.ChangeAt Go.RowKit
set_option linter.unusedVariables false
set_option maxRecDepth 100000
set_option linter.unusedSimpArgs false
set_option maxHeartbeats 1000000
theorem ArcCotangent_any (n t : Int) (w : World) : Calls Try.prog 26 #[.int .i64 n, .int .i64 t] w fun e w' =>
    e = .returned (.agg #[.int .i64 (arcC n t).1, .int .i64 (arcC n t).2]) ∧ Below w.heap.size w w' := by
  by_cases h : ArcIn n t
  · obtain ⟨a, b, c, d⟩ := id h
    obtain ⟨T, rfl⟩ : ∃ T : Nat, t = T := ⟨t.toNat, by omega⟩
    rw [arcC_in h, Int.toNat_natCast]
    exact arcIn n T a b (by omega) (by omega) w
  · have E := Lib.hid (arcC_out h)
    by_cases a : n < 2
    · clear h
      go_enter Try.func26, Try.ntmps26
      go_wp2_with fail
      refine (Whole_any _).mono ?_
      rintro e w1 ⟨rfl, hb1⟩
      have hs1 : _ ≤ w1.heap.size := hb1.size
      try simp at hs1
      have o_q10 : Own (w1) (w.heap.size) 0 (.int .i64 0) := ownJ; obtain ⟨q10, f_q10⟩ := o_q10; have o_q11 : Own (w1) (w.heap.size) 1 (.int .i64 0) := ownJ; obtain ⟨q11, f_q11⟩ := o_q11
      go_wp2
      exact bodyPost_ret (v := .agg #[.int .i64 (-1152921504606846976), .int .i64 1152921504606846976]) (by simp [results, Try.results26, go_sem, q10, q11]) rfl ⟨(by first | (rw [E.out]; done) | (rw [E.out]; rfl) | (simp [E.out]; done)), belB⟩
    · by_cases b : 1000 < n
      · clear h
        go_enter Try.func26, Try.ntmps26
        go_wp2_with fail
        refine (Whole_any _).mono ?_
        rintro e w1 ⟨rfl, hb1⟩
        have hs1 : _ ≤ w1.heap.size := hb1.size
        try simp at hs1
        have o_q10 : Own (w1) (w.heap.size) 0 (.int .i64 0) := ownJ; obtain ⟨q10, f_q10⟩ := o_q10; have o_q11 : Own (w1) (w.heap.size) 1 (.int .i64 0) := ownJ; obtain ⟨q11, f_q11⟩ := o_q11
        go_wp2
        exact bodyPost_ret (v := .agg #[.int .i64 (-1152921504606846976), .int .i64 1152921504606846976]) (by simp [results, Try.results26, go_sem, q10, q11]) rfl ⟨(by first | (rw [E.out]; done) | (rw [E.out]; rfl) | (simp [E.out]; done)), belB⟩
      · by_cases c : t < 1
        · clear h
          go_enter Try.func26, Try.ntmps26
          go_wp2_with fail
          refine (Whole_any _).mono ?_
          rintro e w1 ⟨rfl, hb1⟩
          have hs1 : _ ≤ w1.heap.size := hb1.size
          try simp at hs1
          have o_q10 : Own (w1) (w.heap.size) 0 (.int .i64 0) := ownJ; obtain ⟨q10, f_q10⟩ := o_q10; have o_q11 : Own (w1) (w.heap.size) 1 (.int .i64 0) := ownJ; obtain ⟨q11, f_q11⟩ := o_q11
          go_wp2
          exact bodyPost_ret (v := .agg #[.int .i64 (-1152921504606846976), .int .i64 1152921504606846976]) (by simp [results, Try.results26, go_sem, q10, q11]) rfl ⟨(by first | (rw [E.out]; done) | (rw [E.out]; rfl) | (simp [E.out]; done)), belB⟩
        · have d : 40 < t := by unfold ArcIn at h; omega
          clear h
          go_enter Try.func26, Try.ntmps26
          go_wp2_with fail
          refine (Whole_any _).mono ?_
          rintro e w1 ⟨rfl, hb1⟩
          have hs1 : _ ≤ w1.heap.size := hb1.size
          try simp at hs1
          have o_q10 : Own (w1) (w.heap.size) 0 (.int .i64 0) := ownJ; obtain ⟨q10, f_q10⟩ := o_q10; have o_q11 : Own (w1) (w.heap.size) 1 (.int .i64 0) := ownJ; obtain ⟨q11, f_q11⟩ := o_q11
          go_wp2
          exact bodyPost_ret (v := .agg #[.int .i64 (-1152921504606846976), .int .i64 1152921504606846976]) (by simp [results, Try.results26, go_sem, q10, q11]) rfl ⟨(by first | (rw [E.out]; done) | (rw [E.out]; rfl) | (simp [E.out]; done)), belB⟩
theorem sArcCotangent_any (n t : Int) (w : World) : Calls Try.prog 25 #[.int .i64 n, .int .i64 t] w fun e w' =>
    e = .returned (.agg #[.int .i64 (arcC n t).1, .int .i64 (arcC n t).2]) ∧ Below w.heap.size w w' := by
  by_cases h : ArcIn n t
  · obtain ⟨a, b, c, d⟩ := id h
    obtain ⟨T, rfl⟩ : ∃ T : Nat, t = T := ⟨t.toNat, by omega⟩
    rw [arcC_in h, Int.toNat_natCast]
    exact sArcIn n T a b (by omega) (by omega) w
  · have E := Lib.hid (arcC_out h)
    by_cases a : n < 2 ∨ 1000 < n
    · have LN := Lib.hid (fun w => l00In_no n 2 1000 a w)
      clear h a
      go_enter Try.func25, Try.ntmps25
      go_wp2_with fail
      refine (LN.out _).mono ?_
      rintro e w0 ⟨rfl, hw⟩
      subst w0
      go_wp2_with fail
      refine (sWhole_any _).mono ?_
      rintro e w1 ⟨rfl, hb1⟩
      have hs1 : _ ≤ w1.heap.size := hb1.size
      try simp at hs1
      have o_q10 : Own (w1) (w.heap.size) 0 (.int .i64 0) := ownJ; obtain ⟨q10, f_q10⟩ := o_q10; have o_q11 : Own (w1) (w.heap.size) 1 (.int .i64 0) := ownJ; obtain ⟨q11, f_q11⟩ := o_q11
      go_wp2
      exact bodyPost_ret (v := .agg #[.int .i64 (-1152921504606846976), .int .i64 1152921504606846976]) (by simp [results, Try.results25, go_sem, q10, q11]) rfl ⟨(by first | (rw [E.out]; done) | (rw [E.out]; rfl) | (simp [E.out]; done)), belB⟩
    · have LN := Lib.hid (fun w => l00In_yes n 2 1000 (by omega) (by omega) w)
      have LT := Lib.hid (fun w => l00In_no t 1 40 (by unfold ArcIn at h; omega) w)
      clear h a
      go_enter Try.func25, Try.ntmps25
      go_wp2_with fail
      refine (LN.out _).mono ?_
      rintro e w0 ⟨rfl, hw⟩
      subst w0
      go_wp2_with fail
      refine (LT.out _).mono ?_
      rintro e w0 ⟨rfl, hw⟩
      subst w0
      go_wp2_with fail
      refine (sWhole_any _).mono ?_
      rintro e w1 ⟨rfl, hb1⟩
      have hs1 : _ ≤ w1.heap.size := hb1.size
      try simp at hs1
      have o_q10 : Own (w1) (w.heap.size) 0 (.int .i64 0) := ownJ; obtain ⟨q10, f_q10⟩ := o_q10; have o_q11 : Own (w1) (w.heap.size) 1 (.int .i64 0) := ownJ; obtain ⟨q11, f_q11⟩ := o_q11
      go_wp2
      exact bodyPost_ret (v := .agg #[.int .i64 (-1152921504606846976), .int .i64 1152921504606846976]) (by simp [results, Try.results25, go_sem, q10, q11]) rfl ⟨(by first | (rw [E.out]; done) | (rw [E.out]; rfl) | (simp [E.out]; done)), belB⟩
theorem MachinPi_any (t : Int) (w : World) : Calls Try.prog 28 #[.int .i64 t] w fun e w' =>
    e = .returned (.agg #[.int .i64 (macI t).1, .int .i64 (macI t).2]) ∧ Below w.heap.size w w' := by
  have C0 := Lib.hid (fun w => Integer_any 16 (by unfold In64; omega) w)
  have C1 := Lib.hid (fun w => ArcCotangent_any 5 t w)
  have C2 := Lib.hid (fun w => MulI_any (intI 16) (arcC 5 t) (int_ok _) (res_ok (arcC_res _ _)) w)
  have C3 := Lib.hid (fun w => Integer_any 4 (by unfold In64; omega) w)
  have C4 := Lib.hid (fun w => ArcCotangent_any 239 t w)
  have C5 := Lib.hid (fun w => MulI_any (intI 4) (arcC 239 t) (int_ok _) (res_ok (arcC_res _ _)) w)
  have C6 := Lib.hid (fun w => SubI_any (mulI (intI 16) (arcC 5 t)) (mulI (intI 4) (arcC 239 t)) w)
  have E := Lib.hid (show macI t = subI (mulI (intI 16) (arcC 5 t)) (mulI (intI 4) (arcC 239 t)) from rfl)
  generalize macI t = Y at *
  generalize subI (mulI (intI 16) (arcC 5 t)) (mulI (intI 4) (arcC 239 t)) = z at *
  generalize mulI (intI 16) (arcC 5 t) = m1 at *
  generalize mulI (intI 4) (arcC 239 t) = m2 at *
  generalize arcC 5 t = a1 at *
  generalize arcC 239 t = a2 at *
  generalize intI 16 = i1 at *
  generalize intI 4 = i2 at *
  go_enter Try.func28, Try.ntmps28
  go_wp2_with fail
  refine (C0.out _).mono ?_
  rintro e w1 ⟨rfl, hb1⟩
  have hs1 : _ ≤ w1.heap.size := hb1.size
  try simp at hs1
  have o_q10 : Own (w1) (w.heap.size) 0 (.int .i64 0) := ownJ; have q10 := o_q10.1; have f_q10 := o_q10.2; have o_q11 : Own (w1) (w.heap.size) 1 (.int .i64 0) := ownJ; have q11 := o_q11.1; have f_q11 := o_q11.2
  go_wp2_with fail
  refine (C1.out _).mono ?_
  rintro e w2 ⟨rfl, hb2⟩
  have hs2 : _ ≤ w2.heap.size := hb2.size
  try simp at hs2
  have o_q20 : Own (w2) (w.heap.size) 0 (.int .i64 0) := ownJ; have q20 := o_q20.1; have f_q20 := o_q20.2; have o_q21 : Own (w2) (w.heap.size) 1 (.int .i64 0) := ownJ; have q21 := o_q21.1; have f_q21 := o_q21.2
  go_wp2_with fail
  refine (C2.out _).mono ?_
  rintro e w3 ⟨rfl, hb3⟩
  have hs3 : _ ≤ w3.heap.size := hb3.size
  try simp at hs3
  have o_q30 : Own (w3) (w.heap.size) 0 (.int .i64 0) := ownJ; have q30 := o_q30.1; have f_q30 := o_q30.2; have o_q31 : Own (w3) (w.heap.size) 1 (.int .i64 0) := ownJ; have q31 := o_q31.1; have f_q31 := o_q31.2
  go_wp2_with fail
  refine (C3.out _).mono ?_
  rintro e w4 ⟨rfl, hb4⟩
  have hs4 : _ ≤ w4.heap.size := hb4.size
  try simp at hs4
  have o_q40 : Own (w4) (w.heap.size) 0 (.int .i64 0) := ownJ; have q40 := o_q40.1; have f_q40 := o_q40.2; have o_q41 : Own (w4) (w.heap.size) 1 (.int .i64 0) := ownJ; have q41 := o_q41.1; have f_q41 := o_q41.2
  go_wp2_with fail
  refine (C4.out _).mono ?_
  rintro e w5 ⟨rfl, hb5⟩
  have hs5 : _ ≤ w5.heap.size := hb5.size
  try simp at hs5
  have o_q50 : Own (w5) (w.heap.size) 0 (.int .i64 0) := ownJ; have q50 := o_q50.1; have f_q50 := o_q50.2; have o_q51 : Own (w5) (w.heap.size) 1 (.int .i64 0) := ownJ; have q51 := o_q51.1; have f_q51 := o_q51.2
  go_wp2_with fail
  refine (C5.out _).mono ?_
  rintro e w6 ⟨rfl, hb6⟩
  have hs6 : _ ≤ w6.heap.size := hb6.size
  try simp at hs6
  have o_q60 : Own (w6) (w.heap.size) 0 (.int .i64 0) := ownJ; have q60 := o_q60.1; have f_q60 := o_q60.2; have o_q61 : Own (w6) (w.heap.size) 1 (.int .i64 0) := ownJ; have q61 := o_q61.1; have f_q61 := o_q61.2
  go_wp2_with fail
  refine (C6.out _).mono ?_
  rintro e w7 ⟨rfl, hb7⟩
  have hs7 : _ ≤ w7.heap.size := hb7.size
  try simp at hs7
  have o_q70 : Own (w7) (w.heap.size) 0 (.int .i64 0) := ownJ; have q70 := o_q70.1; have f_q70 := o_q70.2; have o_q71 : Own (w7) (w.heap.size) 1 (.int .i64 0) := ownJ; have q71 := o_q71.1; have f_q71 := o_q71.2
  go_wp2
  exact bodyPost_ret (v := .agg #[.int .i64 (z).1, .int .i64 (z).2]) (by simp [results, Try.results28, go_sem, q70, q71]) rfl ⟨(by first | (rw [E.out]; done) | (rw [E.out]; rfl) | (simp [E.out]; done)), belB⟩
theorem sMachinPi_any (t : Int) (w : World) : Calls Try.prog 27 #[.int .i64 t] w fun e w' =>
    e = .returned (.agg #[.int .i64 (macI t).1, .int .i64 (macI t).2]) ∧ Below w.heap.size w w' := by
  have C0 := Lib.hid (fun w => sInteger_any 16 (by unfold In64; omega) w)
  have C1 := Lib.hid (fun w => sArcCotangent_any 5 t w)
  have C2 := Lib.hid (fun w => sMulI_any (intI 16) (arcC 5 t) w)
  have C3 := Lib.hid (fun w => sInteger_any 4 (by unfold In64; omega) w)
  have C4 := Lib.hid (fun w => sArcCotangent_any 239 t w)
  have C5 := Lib.hid (fun w => sMulI_any (intI 4) (arcC 239 t) w)
  have C6 := Lib.hid (fun w => sSubI_any (mulI (intI 16) (arcC 5 t)) (mulI (intI 4) (arcC 239 t)) w)
  have E := Lib.hid (show macI t = subI (mulI (intI 16) (arcC 5 t)) (mulI (intI 4) (arcC 239 t)) from rfl)
  generalize macI t = Y at *
  generalize subI (mulI (intI 16) (arcC 5 t)) (mulI (intI 4) (arcC 239 t)) = z at *
  generalize mulI (intI 16) (arcC 5 t) = m1 at *
  generalize mulI (intI 4) (arcC 239 t) = m2 at *
  generalize arcC 5 t = a1 at *
  generalize arcC 239 t = a2 at *
  generalize intI 16 = i1 at *
  generalize intI 4 = i2 at *
  go_enter Try.func27, Try.ntmps27
  go_wp2_with fail
  refine (C0.out _).mono ?_
  rintro e w1 ⟨rfl, hb1⟩
  have hs1 : _ ≤ w1.heap.size := hb1.size
  try simp at hs1
  have o_q10 : Own (w1) (w.heap.size) 0 (.int .i64 0) := ownJ; have q10 := o_q10.1; have f_q10 := o_q10.2; have o_q11 : Own (w1) (w.heap.size) 1 (.int .i64 0) := ownJ; have q11 := o_q11.1; have f_q11 := o_q11.2
  go_wp2_with fail
  refine (C1.out _).mono ?_
  rintro e w2 ⟨rfl, hb2⟩
  have hs2 : _ ≤ w2.heap.size := hb2.size
  try simp at hs2
  have o_q20 : Own (w2) (w.heap.size) 0 (.int .i64 0) := ownJ; have q20 := o_q20.1; have f_q20 := o_q20.2; have o_q21 : Own (w2) (w.heap.size) 1 (.int .i64 0) := ownJ; have q21 := o_q21.1; have f_q21 := o_q21.2
  go_wp2_with fail
  refine (C2.out _).mono ?_
  rintro e w3 ⟨rfl, hb3⟩
  have hs3 : _ ≤ w3.heap.size := hb3.size
  try simp at hs3
  have o_q30 : Own (w3) (w.heap.size) 0 (.int .i64 0) := ownJ; have q30 := o_q30.1; have f_q30 := o_q30.2; have o_q31 : Own (w3) (w.heap.size) 1 (.int .i64 0) := ownJ; have q31 := o_q31.1; have f_q31 := o_q31.2
  go_wp2_with fail
  refine (C3.out _).mono ?_
  rintro e w4 ⟨rfl, hb4⟩
  have hs4 : _ ≤ w4.heap.size := hb4.size
  try simp at hs4
  have o_q40 : Own (w4) (w.heap.size) 0 (.int .i64 0) := ownJ; have q40 := o_q40.1; have f_q40 := o_q40.2; have o_q41 : Own (w4) (w.heap.size) 1 (.int .i64 0) := ownJ; have q41 := o_q41.1; have f_q41 := o_q41.2
  go_wp2_with fail
  refine (C4.out _).mono ?_
  rintro e w5 ⟨rfl, hb5⟩
  have hs5 : _ ≤ w5.heap.size := hb5.size
  try simp at hs5
  have o_q50 : Own (w5) (w.heap.size) 0 (.int .i64 0) := ownJ; have q50 := o_q50.1; have f_q50 := o_q50.2; have o_q51 : Own (w5) (w.heap.size) 1 (.int .i64 0) := ownJ; have q51 := o_q51.1; have f_q51 := o_q51.2
  go_wp2_with fail
  refine (C5.out _).mono ?_
  rintro e w6 ⟨rfl, hb6⟩
  have hs6 : _ ≤ w6.heap.size := hb6.size
  try simp at hs6
  have o_q60 : Own (w6) (w.heap.size) 0 (.int .i64 0) := ownJ; have q60 := o_q60.1; have f_q60 := o_q60.2; have o_q61 : Own (w6) (w.heap.size) 1 (.int .i64 0) := ownJ; have q61 := o_q61.1; have f_q61 := o_q61.2
  go_wp2_with fail
  refine (C6.out _).mono ?_
  rintro e w7 ⟨rfl, hb7⟩
  have hs7 : _ ≤ w7.heap.size := hb7.size
  try simp at hs7
  have o_q70 : Own (w7) (w.heap.size) 0 (.int .i64 0) := ownJ; have q70 := o_q70.1; have f_q70 := o_q70.2; have o_q71 : Own (w7) (w.heap.size) 1 (.int .i64 0) := ownJ; have q71 := o_q71.1; have f_q71 := o_q71.2
  go_wp2
  exact bodyPost_ret (v := .agg #[.int .i64 (z).1, .int .i64 (z).2]) (by simp [results, Try.results27, go_sem, q70, q71]) rfl ⟨(by first | (rw [E.out]; done) | (rw [E.out]; rfl) | (simp [E.out]; done)), belB⟩
theorem EulerPi_any (t : Int) (w : World) : Calls Try.prog 30 #[.int .i64 t] w fun e w' =>
    e = .returned (.agg #[.int .i64 (eulI t).1, .int .i64 (eulI t).2]) ∧ Below w.heap.size w w' := by
  have C0 := Lib.hid (fun w => Integer_any 4 (by unfold In64; omega) w)
  have C1 := Lib.hid (fun w => ArcCotangent_any 2 t w)
  have C2 := Lib.hid (fun w => MulI_any (intI 4) (arcC 2 t) (int_ok _) (res_ok (arcC_res _ _)) w)
  have C3 := Lib.hid (fun w => Integer_any 4 (by unfold In64; omega) w)
  have C4 := Lib.hid (fun w => ArcCotangent_any 3 t w)
  have C5 := Lib.hid (fun w => MulI_any (intI 4) (arcC 3 t) (int_ok _) (res_ok (arcC_res _ _)) w)
  have C6 := Lib.hid (fun w => AddI_any (mulI (intI 4) (arcC 2 t)) (mulI (intI 4) (arcC 3 t)) w)
  have E := Lib.hid (show eulI t = addI (mulI (intI 4) (arcC 2 t)) (mulI (intI 4) (arcC 3 t)) from rfl)
  generalize eulI t = Y at *
  generalize addI (mulI (intI 4) (arcC 2 t)) (mulI (intI 4) (arcC 3 t)) = z at *
  generalize mulI (intI 4) (arcC 2 t) = m1 at *
  generalize mulI (intI 4) (arcC 3 t) = m2 at *
  generalize arcC 2 t = a1 at *
  generalize arcC 3 t = a2 at *
  generalize intI 4 = i1 at *
  go_enter Try.func30, Try.ntmps30
  go_wp2_with fail
  refine (C0.out _).mono ?_
  rintro e w1 ⟨rfl, hb1⟩
  have hs1 : _ ≤ w1.heap.size := hb1.size
  try simp at hs1
  have o_q10 : Own (w1) (w.heap.size) 0 (.int .i64 0) := ownJ; have q10 := o_q10.1; have f_q10 := o_q10.2; have o_q11 : Own (w1) (w.heap.size) 1 (.int .i64 0) := ownJ; have q11 := o_q11.1; have f_q11 := o_q11.2
  go_wp2_with fail
  refine (C1.out _).mono ?_
  rintro e w2 ⟨rfl, hb2⟩
  have hs2 : _ ≤ w2.heap.size := hb2.size
  try simp at hs2
  have o_q20 : Own (w2) (w.heap.size) 0 (.int .i64 0) := ownJ; have q20 := o_q20.1; have f_q20 := o_q20.2; have o_q21 : Own (w2) (w.heap.size) 1 (.int .i64 0) := ownJ; have q21 := o_q21.1; have f_q21 := o_q21.2
  go_wp2_with fail
  refine (C2.out _).mono ?_
  rintro e w3 ⟨rfl, hb3⟩
  have hs3 : _ ≤ w3.heap.size := hb3.size
  try simp at hs3
  have o_q30 : Own (w3) (w.heap.size) 0 (.int .i64 0) := ownJ; have q30 := o_q30.1; have f_q30 := o_q30.2; have o_q31 : Own (w3) (w.heap.size) 1 (.int .i64 0) := ownJ; have q31 := o_q31.1; have f_q31 := o_q31.2
  go_wp2_with fail
  refine (C3.out _).mono ?_
  rintro e w4 ⟨rfl, hb4⟩
  have hs4 : _ ≤ w4.heap.size := hb4.size
  try simp at hs4
  have o_q40 : Own (w4) (w.heap.size) 0 (.int .i64 0) := ownJ; have q40 := o_q40.1; have f_q40 := o_q40.2; have o_q41 : Own (w4) (w.heap.size) 1 (.int .i64 0) := ownJ; have q41 := o_q41.1; have f_q41 := o_q41.2
  go_wp2_with fail
  refine (C4.out _).mono ?_
  rintro e w5 ⟨rfl, hb5⟩
  have hs5 : _ ≤ w5.heap.size := hb5.size
  try simp at hs5
  have o_q50 : Own (w5) (w.heap.size) 0 (.int .i64 0) := ownJ; have q50 := o_q50.1; have f_q50 := o_q50.2; have o_q51 : Own (w5) (w.heap.size) 1 (.int .i64 0) := ownJ; have q51 := o_q51.1; have f_q51 := o_q51.2
  go_wp2_with fail
  refine (C5.out _).mono ?_
  rintro e w6 ⟨rfl, hb6⟩
  have hs6 : _ ≤ w6.heap.size := hb6.size
  try simp at hs6
  have o_q60 : Own (w6) (w.heap.size) 0 (.int .i64 0) := ownJ; have q60 := o_q60.1; have f_q60 := o_q60.2; have o_q61 : Own (w6) (w.heap.size) 1 (.int .i64 0) := ownJ; have q61 := o_q61.1; have f_q61 := o_q61.2
  go_wp2_with fail
  refine (C6.out _).mono ?_
  rintro e w7 ⟨rfl, hb7⟩
  have hs7 : _ ≤ w7.heap.size := hb7.size
  try simp at hs7
  have o_q70 : Own (w7) (w.heap.size) 0 (.int .i64 0) := ownJ; have q70 := o_q70.1; have f_q70 := o_q70.2; have o_q71 : Own (w7) (w.heap.size) 1 (.int .i64 0) := ownJ; have q71 := o_q71.1; have f_q71 := o_q71.2
  go_wp2
  exact bodyPost_ret (v := .agg #[.int .i64 (z).1, .int .i64 (z).2]) (by simp [results, Try.results30, go_sem, q70, q71]) rfl ⟨(by first | (rw [E.out]; done) | (rw [E.out]; rfl) | (simp [E.out]; done)), belB⟩
theorem sEulerPi_any (t : Int) (w : World) : Calls Try.prog 29 #[.int .i64 t] w fun e w' =>
    e = .returned (.agg #[.int .i64 (eulI t).1, .int .i64 (eulI t).2]) ∧ Below w.heap.size w w' := by
  have C0 := Lib.hid (fun w => sInteger_any 4 (by unfold In64; omega) w)
  have C1 := Lib.hid (fun w => sArcCotangent_any 2 t w)
  have C2 := Lib.hid (fun w => sMulI_any (intI 4) (arcC 2 t) w)
  have C3 := Lib.hid (fun w => sInteger_any 4 (by unfold In64; omega) w)
  have C4 := Lib.hid (fun w => sArcCotangent_any 3 t w)
  have C5 := Lib.hid (fun w => sMulI_any (intI 4) (arcC 3 t) w)
  have C6 := Lib.hid (fun w => sAddI_any (mulI (intI 4) (arcC 2 t)) (mulI (intI 4) (arcC 3 t)) w)
  have E := Lib.hid (show eulI t = addI (mulI (intI 4) (arcC 2 t)) (mulI (intI 4) (arcC 3 t)) from rfl)
  generalize eulI t = Y at *
  generalize addI (mulI (intI 4) (arcC 2 t)) (mulI (intI 4) (arcC 3 t)) = z at *
  generalize mulI (intI 4) (arcC 2 t) = m1 at *
  generalize mulI (intI 4) (arcC 3 t) = m2 at *
  generalize arcC 2 t = a1 at *
  generalize arcC 3 t = a2 at *
  generalize intI 4 = i1 at *
  go_enter Try.func29, Try.ntmps29
  go_wp2_with fail
  refine (C0.out _).mono ?_
  rintro e w1 ⟨rfl, hb1⟩
  have hs1 : _ ≤ w1.heap.size := hb1.size
  try simp at hs1
  have o_q10 : Own (w1) (w.heap.size) 0 (.int .i64 0) := ownJ; have q10 := o_q10.1; have f_q10 := o_q10.2; have o_q11 : Own (w1) (w.heap.size) 1 (.int .i64 0) := ownJ; have q11 := o_q11.1; have f_q11 := o_q11.2
  go_wp2_with fail
  refine (C1.out _).mono ?_
  rintro e w2 ⟨rfl, hb2⟩
  have hs2 : _ ≤ w2.heap.size := hb2.size
  try simp at hs2
  have o_q20 : Own (w2) (w.heap.size) 0 (.int .i64 0) := ownJ; have q20 := o_q20.1; have f_q20 := o_q20.2; have o_q21 : Own (w2) (w.heap.size) 1 (.int .i64 0) := ownJ; have q21 := o_q21.1; have f_q21 := o_q21.2
  go_wp2_with fail
  refine (C2.out _).mono ?_
  rintro e w3 ⟨rfl, hb3⟩
  have hs3 : _ ≤ w3.heap.size := hb3.size
  try simp at hs3
  have o_q30 : Own (w3) (w.heap.size) 0 (.int .i64 0) := ownJ; have q30 := o_q30.1; have f_q30 := o_q30.2; have o_q31 : Own (w3) (w.heap.size) 1 (.int .i64 0) := ownJ; have q31 := o_q31.1; have f_q31 := o_q31.2
  go_wp2_with fail
  refine (C3.out _).mono ?_
  rintro e w4 ⟨rfl, hb4⟩
  have hs4 : _ ≤ w4.heap.size := hb4.size
  try simp at hs4
  have o_q40 : Own (w4) (w.heap.size) 0 (.int .i64 0) := ownJ; have q40 := o_q40.1; have f_q40 := o_q40.2; have o_q41 : Own (w4) (w.heap.size) 1 (.int .i64 0) := ownJ; have q41 := o_q41.1; have f_q41 := o_q41.2
  go_wp2_with fail
  refine (C4.out _).mono ?_
  rintro e w5 ⟨rfl, hb5⟩
  have hs5 : _ ≤ w5.heap.size := hb5.size
  try simp at hs5
  have o_q50 : Own (w5) (w.heap.size) 0 (.int .i64 0) := ownJ; have q50 := o_q50.1; have f_q50 := o_q50.2; have o_q51 : Own (w5) (w.heap.size) 1 (.int .i64 0) := ownJ; have q51 := o_q51.1; have f_q51 := o_q51.2
  go_wp2_with fail
  refine (C5.out _).mono ?_
  rintro e w6 ⟨rfl, hb6⟩
  have hs6 : _ ≤ w6.heap.size := hb6.size
  try simp at hs6
  have o_q60 : Own (w6) (w.heap.size) 0 (.int .i64 0) := ownJ; have q60 := o_q60.1; have f_q60 := o_q60.2; have o_q61 : Own (w6) (w.heap.size) 1 (.int .i64 0) := ownJ; have q61 := o_q61.1; have f_q61 := o_q61.2
  go_wp2_with fail
  refine (C6.out _).mono ?_
  rintro e w7 ⟨rfl, hb7⟩
  have hs7 : _ ≤ w7.heap.size := hb7.size
  try simp at hs7
  have o_q70 : Own (w7) (w.heap.size) 0 (.int .i64 0) := ownJ; have q70 := o_q70.1; have f_q70 := o_q70.2; have o_q71 : Own (w7) (w.heap.size) 1 (.int .i64 0) := ownJ; have q71 := o_q71.1; have f_q71 := o_q71.2
  go_wp2
  exact bodyPost_ret (v := .agg #[.int .i64 (z).1, .int .i64 (z).2]) (by simp [results, Try.results29, go_sem, q70, q71]) rfl ⟨(by first | (rw [E.out]; done) | (rw [E.out]; rfl) | (simp [E.out]; done)), belB⟩
end Go.Proofs.Ytnnanbaldcjfiaa
