/- A contract of exponentials of numbers in the program. Conditions: numbers are int64; the program's interval is laid. -/
import Derived.Test.YtnnanbaldcjfiaaGreatDoorExA
import Derived.Test.YtnnanbaldcjfiaaGreatDoorExB
import Derived.Test.YtnnanbaldcjfiaaGreatDoorExC
import Derived.Test.YtnnanbaldcjfiaaGreatDoorWideZm
import Derived.Outline
namespace Go.Proofs.YtnnanbaldcjfiaaGreatDoor
open Go.ChangeShapes Go.WideShapes Go.ChangeAt Go.RowKit
set_option linter.unusedVariables false
set_option maxRecDepth 100000
set_option linter.unusedSimpArgs false
set_option maxHeartbeats 1000000
theorem ExpAt_no (n : Int) (h : ¬ InF n ∨ 85899345920 < n) (w : World) : Calls Tryz.prog 56 #[.int .i64 n] w fun e w' =>
    e = .returned (.agg #[.int .i64 (expF n).1, .int .i64 (expF n).2]) ∧ Below w.heap.size w w' := by
  have E := Lib.hid (expF_no h)
  by_cases f : InF n
  · have O := okF_yes f
    have k : decide (85899345920 < n) = true := decide_eq_true (by rcases h with h | h; exact absurd f h; exact h)
    clear h f
    generalize expF n = Y at *
    go_enter Tryz.func56, Tryz.ntmps56
    go_wp2_with fail
    refine (ValidFix_any n _).mono ?_
    rintro e w0 ⟨rfl, rfl⟩
    try rw [O]
    go_wp2_with fail
    refine (Whole_any _).mono ?_
    rintro e w1 ⟨rfl, hb1⟩
    have hs1 : _ ≤ w1.heap.size := hb1.size
    try simp at hs1
    have o_q10 : Own (w1) (w.heap.size) 0 (.int .i64 0) := ownJ; obtain ⟨q10, f_q10⟩ := o_q10; have o_q11 : Own (w1) (w.heap.size) 1 (.int .i64 0) := ownJ; obtain ⟨q11, f_q11⟩ := o_q11
    go_wp2
    exact bodyPost_ret (v := .agg #[.int .i64 (-1152921504606846976), .int .i64 1152921504606846976]) (by simp [results, Tryz.results56, go_sem, q10, q11]) rfl ⟨(by first | (rw [E.out]; done) | (rw [E.out]; rfl) | (simp [E.out]; done)), belB⟩
  · have O := okF_no f
    clear h f
    generalize expF n = Y at *
    go_enter Tryz.func56, Tryz.ntmps56
    go_wp2_with fail
    refine (ValidFix_any n _).mono ?_
    rintro e w0 ⟨rfl, rfl⟩
    try rw [O]
    go_wp2_with fail
    refine (Whole_any _).mono ?_
    rintro e w1 ⟨rfl, hb1⟩
    have hs1 : _ ≤ w1.heap.size := hb1.size
    try simp at hs1
    have o_q10 : Own (w1) (w.heap.size) 0 (.int .i64 0) := ownJ; obtain ⟨q10, f_q10⟩ := o_q10; have o_q11 : Own (w1) (w.heap.size) 1 (.int .i64 0) := ownJ; obtain ⟨q11, f_q11⟩ := o_q11
    go_wp2
    exact bodyPost_ret (v := .agg #[.int .i64 (-1152921504606846976), .int .i64 1152921504606846976]) (by simp [results, Tryz.results56, go_sem, q10, q11]) rfl ⟨(by first | (rw [E.out]; done) | (rw [E.out]; rfl) | (simp [E.out]; done)), belB⟩
theorem ExpAt_low (n : Int) (h : InF n) (k : n < -98784247808) (w : World) : Calls Tryz.prog 56 #[.int .i64 n] w fun e w' =>
    e = .returned (.agg #[.int .i64 (expF n).1, .int .i64 (expF n).2]) ∧ Below w.heap.size w w' := by
  have E := Lib.hid (expF_low h k)
  have O := okF_yes h
  have k0 : decide (85899345920 < n) = false := decide_eq_false (by omega)
  have k1 : decide (n < -98784247808) = true := decide_eq_true k
  clear h k
  generalize expF n = Y at *
  go_enter Tryz.func56, Tryz.ntmps56
  go_wp2_with fail
  refine (ValidFix_any n _).mono ?_
  rintro e w0 ⟨rfl, rfl⟩
  try rw [O]
  go_wp2
  exact bodyPost_ret (v := .agg #[.int .i64 0, .int .i64 1]) (by simp [results, Tryz.results56, go_sem, E.out]) rfl ⟨(by first | (rw [E.out]; done) | (rw [E.out]; rfl) | (simp [E.out]; done)), belB⟩
theorem ExpAt_yes (n : Int) (h : ExpN n) (w : World) (hg : GloT w) : Calls Tryz.prog 56 #[.int .i64 n] w fun e w' =>
    e = .returned (.agg #[.int .i64 (expF n).1, .int .i64 (expF n).2]) ∧ Below w.heap.size w w' := by
  have E := Lib.hid (expF_yes h)
  have kk := expK_in h
  have MD := fun w => MulDivFloor_any (2 * n + 2977044472) 1 5954088944 (by unfold ExpN at h; unfold In64; omega) (by unfold In64; omega) (by unfold In64; omega) w
  rw [md_expK h] at MD
  have M := Lib.hid MD
  have S := Lib.hid (fun w => single_any n w)
  have L := Lib.hid (fun w => LogTwoI_any (expK n) w)
  have R := Lib.hid (fun w => SubI_any (n, n) (ln2 (expK n)) w)
  have X := Lib.hid (fun w hg => expSeries_any (expR n) (res_ok (sub_res _ _)) w hg)
  have T := Lib.hid (fun w => timesTwos_any (expS (expR n)) (by have := res_in' (add_res (expL (expR n) 9) tin); unfold InI at this; unfold InF expS; omega) (expK n) (by omega) (by omega) w)
  have O := okF_yes (show InF n by unfold ExpN at h; unfold InF; omega)
  have k0 : decide (85899345920 < n) = false := decide_eq_false (by unfold ExpN at h; omega)
  have k1 : decide (n < -98784247808) = false := decide_eq_false (by unfold ExpN at h; omega)
  have b0 : -98784247808 ≤ n := h.1
  have b1 : n ≤ 85899345920 := h.2
  have ER : subI (n, n) (ln2 (expK n)) = expR n := rfl
  rw [ER] at R
  clear MD h ER kk
  generalize expF n = Y at *
  generalize shfI (expS (expR n)) (expK n) = z at *
  generalize expS (expR n) = s at *
  generalize expR n = r at *
  generalize ln2 (expK n) = l at *
  generalize expK n = k at *
  go_enter Tryz.func56, Tryz.ntmps56
  go_wp2_with fail
  refine (ValidFix_any n _).mono ?_
  rintro e w0 ⟨rfl, rfl⟩
  try rw [O]
  go_wp2_with fail
  refine (M.out _).mono ?_
  rintro e w1 ⟨rfl, hb1⟩
  have hs1 : _ ≤ w1.heap.size := hb1.size
  try simp at hs1
  have o_q10 : Own (w1) (w.heap.size) 0 (.int .i64 0) := ownJ; have q10 := o_q10.1; have f_q10 := o_q10.2; have o_q11 : Own (w1) (w.heap.size) 1 (.int .i64 0) := ownJ; have q11 := o_q11.1; have f_q11 := o_q11.2
  go_wp2_with fail
  refine (S.out _).mono ?_
  rintro e w2 ⟨rfl, hb2⟩
  have hs2 : _ ≤ w2.heap.size := hb2.size
  try simp at hs2
  have o_q20 : Own (w2) (w.heap.size) 0 (.int .i64 0) := ownJ; have q20 := o_q20.1; have f_q20 := o_q20.2; have o_q21 : Own (w2) (w.heap.size) 1 (.int .i64 0) := ownJ; have q21 := o_q21.1; have f_q21 := o_q21.2
  go_wp2_with fail
  refine (L.out _).mono ?_
  rintro e w3 ⟨rfl, hb3⟩
  have hs3 : _ ≤ w3.heap.size := hb3.size
  try simp at hs3
  have o_q30 : Own (w3) (w.heap.size) 0 (.int .i64 0) := ownJ; have q30 := o_q30.1; have f_q30 := o_q30.2; have o_q31 : Own (w3) (w.heap.size) 1 (.int .i64 0) := ownJ; have q31 := o_q31.1; have f_q31 := o_q31.2
  go_wp2_with fail
  refine (R.out _).mono ?_
  rintro e w4 ⟨rfl, hb4⟩
  have hs4 : _ ≤ w4.heap.size := hb4.size
  try simp at hs4
  have o_q40 : Own (w4) (w.heap.size) 0 (.int .i64 0) := ownJ; have q40 := o_q40.1; have f_q40 := o_q40.2; have o_q41 : Own (w4) (w.heap.size) 1 (.int .i64 0) := ownJ; have q41 := o_q41.1; have f_q41 := o_q41.2
  go_wp2_with fail
  refine (X.out _ (by repeat (first | (with_reducible assumption) | (with_reducible refine GloT.drew ?_) | (with_reducible refine GloT.kept ?_ (by assumption)) | (with_reducible refine GloT.alloc ?_ _)))).mono ?_
  rintro e w5 ⟨rfl, hb5⟩
  have hs5 : _ ≤ w5.heap.size := hb5.size
  try simp at hs5
  have o_q50 : Own (w5) (w.heap.size) 0 (.int .i64 0) := ownJ; have q50 := o_q50.1; have f_q50 := o_q50.2; have o_q51 : Own (w5) (w.heap.size) 1 (.int .i64 0) := ownJ; have q51 := o_q51.1; have f_q51 := o_q51.2
  go_wp2_with fail
  refine (T.out _).mono ?_
  rintro e w6 ⟨rfl, hb6⟩
  have hs6 : _ ≤ w6.heap.size := hb6.size
  try simp at hs6
  have o_q60 : Own (w6) (w.heap.size) 0 (.int .i64 0) := ownJ; obtain ⟨q60, f_q60⟩ := o_q60; have o_q61 : Own (w6) (w.heap.size) 1 (.int .i64 0) := ownJ; obtain ⟨q61, f_q61⟩ := o_q61
  go_wp2
  exact bodyPost_ret (v := .agg #[.int .i64 (z).1, .int .i64 (z).2]) (by simp [results, Tryz.results56, go_sem, q60, q61]) rfl ⟨by rw [E.out], belB⟩
theorem ExpAt_any (n : Int) (w : World) (hg : GloT w) : Calls Tryz.prog 56 #[.int .i64 n] w fun e w' =>
    e = .returned (.agg #[.int .i64 (expF n).1, .int .i64 (expF n).2]) ∧ Below w.heap.size w w' := by
  by_cases h : ExpN n
  · exact ExpAt_yes n h w hg
  · by_cases k : InF n ∧ n < -98784247808
    · exact ExpAt_low n k.1 k.2 w
    · refine ExpAt_no n ?_ w
      unfold ExpN at h
      by_cases f : InF n
      · right; have : ¬ n < -98784247808 := fun c => k ⟨f, c⟩; omega
      · exact .inl f
end Go.Proofs.YtnnanbaldcjfiaaGreatDoor
