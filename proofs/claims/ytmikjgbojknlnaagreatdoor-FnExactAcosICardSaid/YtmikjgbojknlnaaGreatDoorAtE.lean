/- Contracts of arcs of numbers and of intervals in the model. Conditions: numbers are int64. -/
import Derived.Test.YtmikjgbojknlnaaGreatDoorAtC
import Derived.Test.YtmikjgbojknlnaaGreatDoorAtH
import Derived.Test.YtmikjgbojknlnaaGreatDoorWideZp
import Derived.Test.YtmikjgbojknlnaaGreatDoorFixF
import Derived.Test.YtmikjgbojknlnaaGreatDoorIvM
import Derived.Test.YtmikjgbojknlnaaGreatDoorIvN
import Derived.Test.YtmikjgbojknlnaaGreatDoorIvV
import Derived.Test.YtmikjgbojknlnaaGreatDoorIvW
import Derived.Test.YtmikjgbojknlnaaGreatDoorIvX
import Derived.Test.YtmikjgbojknlnaaGreatDoorIvU
import Derived.Deep.RegionHeld3
import Derived.Deep.DeepCutAuto
import Derived.Outline
namespace Go.Proofs.YtmikjgbojknlnaaGreatDoor
open Go.ChangeShapes Go.WideShapes Go.ChangeAt Go.RowKit
set_option linter.unusedVariables false
set_option maxRecDepth 100000
set_option linter.unusedSimpArgs false
set_option maxHeartbeats 1000000
theorem sAtanAt_no (n : Int) (h : ¬ FixN n) (w : World) : Calls Tryz.prog 30 #[.int .i64 n] w fun e w' =>
    e = .returned (.agg #[.int .i64 (atnF n).1, .int .i64 (atnF n).2]) ∧ Below w.heap.size w w' := by
  have X := Lib.hid (fun w => l07Fix_no n h w)
  have E := Lib.hid (atnF_no h)
  clear h
  go_enter Tryz.func30, Tryz.ntmps30
  go_wp2_with fail
  refine (X.out _).mono ?_
  rintro e w1 ⟨rfl, hb1⟩
  have hs1 : _ ≤ w1.heap.size := hb1.size
  try simp at hs1
  have o_q10 : Own (w1) (w.heap.size) 0 (.int .i64 0) := ownJ; have q10 := o_q10.1; have f_q10 := o_q10.2; have o_q11 : Own (w1) (w.heap.size) 1 (.int .i64 0) := ownJ; have q11 := o_q11.1; have f_q11 := o_q11.2
  go_wp2_with fail
  refine (l07Quarter_any _).mono ?_
  rintro e w2 ⟨rfl, hb2⟩
  have hs2 : _ ≤ w2.heap.size := hb2.size
  try simp at hs2
  have o_q20 : Own (w2) (w.heap.size) 0 (.int .i64 0) := ownJ; have q20 := o_q20.1; have f_q20 := o_q20.2; have o_q21 : Own (w2) (w.heap.size) 1 (.int .i64 0) := ownJ; have q21 := o_q21.1; have f_q21 := o_q21.2
  go_wp2
  exact bodyPost_ret (v := .agg #[.int .i64 (-6746518853), .int .i64 6746518853]) (by simp [results, Tryz.results30, go_sem, q20, q21]) rfl ⟨(by first | (rw [E.out, qrtC]; done) | (rw [E.out, qrtC]; rfl) | (simp [E.out, qrtC]; done)), belB⟩
theorem sAtanAt_pos (n : Int) (h : FixN n) (p : 0 ≤ n) (w : World) : Calls Tryz.prog 30 #[.int .i64 n] w fun e w' =>
    e = .returned (.agg #[.int .i64 (atnP n).1, .int .i64 (atnP n).2]) ∧ Below w.heap.size w w' := by
  have X := Lib.hid (fun w => l07Fix_yes n h w)
  have s0 : decide (n < 0) = false := decide_eq_false (by omega)
  have hok : Ok (n, n) := by unfold FixN at h; unfold Ok In64; simp only; omega
  have AT := Lib.hid (fun w => l05At_any n w)
  by_cases k : 4294967296 < n
  · have k0 : decide (4294967296 < n) = true := decide_eq_true k
    have T := Lib.hid (fun w => sTurnI_any 1 w)
    have I := Lib.hid (fun w => sInteger_any 1 (by unfold In64; omega) w)
    have Q := Lib.hid (fun w => sDivI_any (intI 1) (n, n) w)
    have R := Lib.hid (fun w => sringArc_any (divI (intI 1) (n, n)) (res_ok (div_res _ _)) w)
    have U := Lib.hid (fun w => sSubI_any (turI 1) (rinA (divI (intI 1) (n, n))) w)
    have E := Lib.hid (show atnP n = subI (turI 1) (rinA (divI (intI 1) (n, n))) from if_pos k)
    clear h k hok
    generalize subI (turI 1) (rinA (divI (intI 1) (n, n))) = z at *
    generalize rinA (divI (intI 1) (n, n)) = r at *
    generalize divI (intI 1) (n, n) = d at *
    generalize intI 1 = i at *
    generalize turI 1 = t at *
    go_enter Tryz.func30, Tryz.ntmps30
    go_wp2_with fail
    refine (X.out _).mono ?_
    rintro e w1 ⟨rfl, hb1⟩
    have hs1 : _ ≤ w1.heap.size := hb1.size
    try simp at hs1
    have o_q10 : Own (w1) (w.heap.size) 0 (.int .i64 0) := ownJ; have q10 := o_q10.1; have f_q10 := o_q10.2; have o_q11 : Own (w1) (w.heap.size) 1 (.int .i64 0) := ownJ; have q11 := o_q11.1; have f_q11 := o_q11.2
    go_wp2_with fail
    refine (T.out _).mono ?_
    rintro e w2 ⟨rfl, hb2⟩
    have hs2 : _ ≤ w2.heap.size := hb2.size
    try simp at hs2
    have o_q20 : Own (w2) (w.heap.size) 0 (.int .i64 0) := ownJ; have q20 := o_q20.1; have f_q20 := o_q20.2; have o_q21 : Own (w2) (w.heap.size) 1 (.int .i64 0) := ownJ; have q21 := o_q21.1; have f_q21 := o_q21.2
    go_wp2_with fail
    refine (I.out _).mono ?_
    rintro e w3 ⟨rfl, hb3⟩
    have hs3 : _ ≤ w3.heap.size := hb3.size
    try simp at hs3
    have o_q30 : Own (w3) (w.heap.size) 0 (.int .i64 0) := ownJ; have q30 := o_q30.1; have f_q30 := o_q30.2; have o_q31 : Own (w3) (w.heap.size) 1 (.int .i64 0) := ownJ; have q31 := o_q31.1; have f_q31 := o_q31.2
    go_wp2_with fail
    refine (AT.out _).mono ?_
    rintro e w4 ⟨rfl, hb4⟩
    have hs4 : _ ≤ w4.heap.size := hb4.size
    try simp at hs4
    have o_q40 : Own (w4) (w.heap.size) 0 (.int .i64 0) := ownJ; have q40 := o_q40.1; have f_q40 := o_q40.2; have o_q41 : Own (w4) (w.heap.size) 1 (.int .i64 0) := ownJ; have q41 := o_q41.1; have f_q41 := o_q41.2
    go_wp2_with fail
    refine (Q.out _).mono ?_
    rintro e w5 ⟨rfl, hb5⟩
    have hs5 : _ ≤ w5.heap.size := hb5.size
    try simp at hs5
    have o_q50 : Own (w5) (w.heap.size) 0 (.int .i64 0) := ownJ; have q50 := o_q50.1; have f_q50 := o_q50.2; have o_q51 : Own (w5) (w.heap.size) 1 (.int .i64 0) := ownJ; have q51 := o_q51.1; have f_q51 := o_q51.2
    go_wp2_with fail
    refine (R.out _).mono ?_
    rintro e w6 ⟨rfl, hb6⟩
    have hs6 : _ ≤ w6.heap.size := hb6.size
    try simp at hs6
    have o_q60 : Own (w6) (w.heap.size) 0 (.int .i64 0) := ownJ; have q60 := o_q60.1; have f_q60 := o_q60.2; have o_q61 : Own (w6) (w.heap.size) 1 (.int .i64 0) := ownJ; have q61 := o_q61.1; have f_q61 := o_q61.2
    go_wp2_with fail
    refine (U.out _).mono ?_
    rintro e w7 ⟨rfl, hb7⟩
    have hs7 : _ ≤ w7.heap.size := hb7.size
    try simp at hs7
    have o_q70 : Own (w7) (w.heap.size) 0 (.int .i64 0) := ownJ; have q70 := o_q70.1; have f_q70 := o_q70.2; have o_q71 : Own (w7) (w.heap.size) 1 (.int .i64 0) := ownJ; have q71 := o_q71.1; have f_q71 := o_q71.2
    go_wp2
    exact bodyPost_ret (v := .agg #[.int .i64 (z).1, .int .i64 (z).2]) (by simp [results, Tryz.results30, go_sem, q70, q71]) rfl ⟨by rw [E.out], belB⟩
  · have k0 : decide (4294967296 < n) = false := decide_eq_false k
    have R := Lib.hid (fun w => sringArc_any (n, n) hok w)
    have E := Lib.hid (show atnP n = rinA (n, n) from if_neg k)
    clear h k hok
    generalize rinA (n, n) = r at *
    go_enter Tryz.func30, Tryz.ntmps30
    go_wp2_with fail
    refine (X.out _).mono ?_
    rintro e w1 ⟨rfl, hb1⟩
    have hs1 : _ ≤ w1.heap.size := hb1.size
    try simp at hs1
    have o_q10 : Own (w1) (w.heap.size) 0 (.int .i64 0) := ownJ; have q10 := o_q10.1; have f_q10 := o_q10.2; have o_q11 : Own (w1) (w.heap.size) 1 (.int .i64 0) := ownJ; have q11 := o_q11.1; have f_q11 := o_q11.2
    go_wp2_with fail
    refine (AT.out _).mono ?_
    rintro e w2 ⟨rfl, hb2⟩
    have hs2 : _ ≤ w2.heap.size := hb2.size
    try simp at hs2
    have o_q20 : Own (w2) (w.heap.size) 0 (.int .i64 0) := ownJ; have q20 := o_q20.1; have f_q20 := o_q20.2; have o_q21 : Own (w2) (w.heap.size) 1 (.int .i64 0) := ownJ; have q21 := o_q21.1; have f_q21 := o_q21.2
    go_wp2_with fail
    refine (R.out _).mono ?_
    rintro e w3 ⟨rfl, hb3⟩
    have hs3 : _ ≤ w3.heap.size := hb3.size
    try simp at hs3
    have o_q30 : Own (w3) (w.heap.size) 0 (.int .i64 0) := ownJ; have q30 := o_q30.1; have f_q30 := o_q30.2; have o_q31 : Own (w3) (w.heap.size) 1 (.int .i64 0) := ownJ; have q31 := o_q31.1; have f_q31 := o_q31.2
    go_wp2
    exact bodyPost_ret (v := .agg #[.int .i64 (r).1, .int .i64 (r).2]) (by simp [results, Tryz.results30, go_sem, q30, q31]) rfl ⟨by rw [E.out], belB⟩
theorem sAtanAt_neg (n : Int) (h : FixN n) (p : n < 0) (w : World) : Calls Tryz.prog 30 #[.int .i64 n] w fun e w' =>
    e = .returned (.agg #[.int .i64 (negI (atnP (-n))).1, .int .i64 (negI (atnP (-n))).2]) ∧ Below w.heap.size w w' := by
  have X := Lib.hid (fun w => l07Fix_yes n h w)
  have s0 : decide (n < 0) = true := decide_eq_true p
  have WN : IntKind.i64.wrap (-n) = -n := by unfold FixN at h; rw [IntKind.wrap_i64]; omega
  have R := Lib.hid (fun w => sAtanAt_pos (-n) (by unfold FixN at *; omega) (by omega) w)
  have U := Lib.hid (fun w => sNegI_any (atnP (-n)) w)
  clear h p
  generalize negI (atnP (-n)) = z at *
  generalize atnP (-n) = r at *
  go_enter Tryz.func30, Tryz.ntmps30
  go_wp2_with fail
  refine (X.out _).mono ?_
  rintro e w1 ⟨rfl, hb1⟩
  have hs1 : _ ≤ w1.heap.size := hb1.size
  try simp at hs1
  have o_q10 : Own (w1) (w.heap.size) 0 (.int .i64 0) := ownJ; have q10 := o_q10.1; have f_q10 := o_q10.2; have o_q11 : Own (w1) (w.heap.size) 1 (.int .i64 0) := ownJ; have q11 := o_q11.1; have f_q11 := o_q11.2
  go_wp2_with fail
  refine (R.out _).mono ?_
  rintro e w2 ⟨rfl, hb2⟩
  have hs2 : _ ≤ w2.heap.size := hb2.size
  try simp at hs2
  have o_q20 : Own (w2) (w.heap.size) 0 (.int .i64 0) := ownJ; have q20 := o_q20.1; have f_q20 := o_q20.2; have o_q21 : Own (w2) (w.heap.size) 1 (.int .i64 0) := ownJ; have q21 := o_q21.1; have f_q21 := o_q21.2
  go_wp2_with fail
  refine (U.out _).mono ?_
  rintro e w3 ⟨rfl, hb3⟩
  have hs3 : _ ≤ w3.heap.size := hb3.size
  try simp at hs3
  have o_q30 : Own (w3) (w.heap.size) 0 (.int .i64 0) := ownJ; have q30 := o_q30.1; have f_q30 := o_q30.2; have o_q31 : Own (w3) (w.heap.size) 1 (.int .i64 0) := ownJ; have q31 := o_q31.1; have f_q31 := o_q31.2
  go_wp2
  exact bodyPost_ret (v := .agg #[.int .i64 (z).1, .int .i64 (z).2]) (by simp [results, Tryz.results30, go_sem, q30, q31]) rfl ⟨rfl, belB⟩
theorem sAtanAt_any (n : Int) (w : World) : Calls Tryz.prog 30 #[.int .i64 n] w fun e w' =>
    e = .returned (.agg #[.int .i64 (atnF n).1, .int .i64 (atnF n).2]) ∧ Below w.heap.size w w' := by
  by_cases h : FixN n
  · by_cases p : n < 0
    · rw [show atnF n = negI (atnP (-n)) by unfold atnF; rw [if_pos h, if_pos p]]
      exact sAtanAt_neg n h p w
    · rw [show atnF n = atnP n by unfold atnF; rw [if_pos h, if_neg p]]
      exact sAtanAt_pos n h (by omega) w
  · exact sAtanAt_no n h w
theorem sAtanI_any (x : Iv) (w : World) : Calls Tryz.prog 32 #[.agg #[.int .i64 x.1, .int .i64 x.2]] w fun e w' =>
    e = .returned (.agg #[.int .i64 (atnI x).1, .int .i64 (atnI x).2]) ∧ Below w.heap.size w w' := by
  have W := Lib.hid (fun w => sIsWhole_any x w)
  by_cases h : Bnd x
  · rw [bnd_yes h] at W
    have A1 := Lib.hid (fun w => sAtanAt_any x.1 w)
    have A2 := Lib.hid (fun w => sAtanAt_any x.2 w)
    have H := Lib.hid (fun w => sHullI_any (atnF x.1) (atnF x.2) w)
    have E := Lib.hid (atnI_yes h)
    clear h
    generalize atnI x = Y at *
    generalize hulI (atnF x.1) (atnF x.2) = z at *
    generalize atnF x.1 = a1 at *
    generalize atnF x.2 = a2 at *
    go_enter Tryz.func32, Tryz.ntmps32
    go_wp2_with fail
    refine (W.out _).mono ?_
    rintro e w1 ⟨rfl, hb1⟩
    have hs1 : _ ≤ w1.heap.size := hb1.size
    try simp at hs1
    have o_q10 : Own (w1) (w.heap.size + 1) 0 (.int .i64 0) := ownJ; have q10 := o_q10.1; have f_q10 := o_q10.2; have o_q11 : Own (w1) (w.heap.size + 1) 1 (.int .i64 0) := ownJ; have q11 := o_q11.1; have f_q11 := o_q11.2
    have o_x10 : Own (w1) (w.heap.size) 0 (.int .i64 x.1) := ownJ; have x10 := o_x10.1; have f_x10 := o_x10.2; have o_x11 : Own (w1) (w.heap.size) 1 (.int .i64 x.2) := ownJ; have x11 := o_x11.1; have f_x11 := o_x11.2
    have zz1 : w.heap.size < w1.heap.size := World.block_lt_of_cell? _ _ x10; obtain ⟨zz1a, zz1b, zz1c, zz1d, zz1e, zz1f, zz1g, zz1h, zz1i⟩ := below_more zz1; have zn1 : ¬ w.heap.size = w1.heap.size := Nat.ne_of_lt zz1; have zm1 : ¬ w1.heap.size = w.heap.size := Nat.ne_of_gt zz1
    have zz2 : w.heap.size + 1 < w1.heap.size := World.block_lt_of_cell? _ _ q10; obtain ⟨zz2a, zz2b, zz2c, zz2d, zz2e, zz2f, zz2g, zz2h, zz2i⟩ := below_more zz2; have zn2 : ¬ w.heap.size + 1 = w1.heap.size := Nat.ne_of_lt zz2; have zm2 : ¬ w1.heap.size = w.heap.size + 1 := Nat.ne_of_gt zz2
    go_wp2_with fail
    have z0 := pslot_of (w := w1) (a := ⟨w.heap.size + 1, 0, none⟩) (v := .int .i64 0) o_q10.1 o_q10.2
    have z1 := pslot_of (w := w1) (a := ⟨w.heap.size + 1, 1, none⟩) (v := .int .i64 0) o_q11.1 o_q11.2
    obtain ⟨hlt2, hlt3, hlt4, hlt5, hlt6, hlt7, hlt8, hlt9, hlt10, hlt11⟩ := below_add; go_region_held3 (fun w' => w'.cell? ⟨w.heap.size, 0, none⟩ = some (.int .i64 x.1) ∧ w'.cell? ⟨w.heap.size, 1, none⟩ = some (.int .i64 x.2) ∧ (w'.cell? ⟨w.heap.size + 1, 0, none⟩ = some (peek w' ⟨w.heap.size + 1, 0, none⟩) ∧ w'.frozen? ⟨w.heap.size + 1, 0, none⟩ = false) ∧ (w'.cell? ⟨w.heap.size + 1, 1, none⟩ = some (peek w' ⟨w.heap.size + 1, 1, none⟩) ∧ w'.frozen? ⟨w.heap.size + 1, 1, none⟩ = false)) (first | (with_reducible exact ((And.imp (cell_kept (by assumption)) (And.imp (cell_kept (by assumption)) (And.imp (pslot_kept (by assumption)) (pslot_kept (by assumption))))) (by assumption))) | (with_reducible exact ((And.imp (cell_alloc) (And.imp (cell_alloc) (And.imp (pslot_alloc) (pslot_alloc)))) (by assumption))) | (with_reducible exact ((And.imp (fun h => cell_far (by first | (simp; done) | (simp; omega) | (dsimp only; omega)) (cell_far (by first | (simp; done) | (simp; omega) | (dsimp only; omega)) h)) (And.imp (fun h => cell_far (by first | (simp; done) | (simp; omega) | (dsimp only; omega)) (cell_far (by first | (simp; done) | (simp; omega) | (dsimp only; omega)) h)) (And.imp (fun h => pslot_set (pslot_set h)) (fun h => pslot_set (pslot_set h))))) (by assumption))) | (refine ⟨?_, ?_, ?_, ?_⟩ <;> repeat (first | (with_reducible assumption) | (with_reducible refine cell_far (by first | (simp; done) | (simp; omega) | (dsimp only; omega)) ?_) | (with_reducible refine cell_drew ?_) | (with_reducible refine cell_drewN ?_) | (with_reducible refine cell_kept (by assumption) ?_) | (with_reducible exact pslot_of (by assumption) (by assumption)) | (with_reducible refine pslot_drew ?_) | (with_reducible refine pslot_kept (by assumption) ?_) | (with_reducible refine pslot_alloc ?_) | (simp [go_sem]; done) | (with_reducible refine cell_alloc ?_))) | (simp [go_sem, *]; done)) (first | (go_at_call 30; with_reducible refine (A1.out _).mono ?_; rintro e w1 ⟨rfl, hb⟩; have hs : _ ≤ w1.heap.size := hb.size; (try simp at hs); obtain ⟨hc, hf, hl, hn, hm⟩ := behind hb) | (go_at_call 30; with_reducible refine (A2.out _).mono ?_; rintro e w1 ⟨rfl, hb⟩; have hs : _ ≤ w1.heap.size := hb.size; (try simp at hs); obtain ⟨hc, hf, hl, hn, hm⟩ := behind hb) | (go_at_call 80; refine (H.out _).mono ?_; rintro e w1 ⟨rfl, hb⟩; have hs : _ ≤ w1.heap.size := hb.size; (try simp at hs); obtain ⟨hc, hf, hl, hn, hm⟩ := behind hb))
    all_goals (go_wp2; have o_j0 : Own (w1) (w.heap.size + 1) 0 (.int .i64 0) := ownJ; obtain ⟨j0, f_j0⟩ := o_j0; have o_j1 : Own (w1) (w.heap.size + 1) 1 (.int .i64 0) := ownJ; obtain ⟨j1, f_j1⟩ := o_j1; exact bodyPost_ret (v := .agg #[.int .i64 (z).1, .int .i64 (z).2]) (by simp [results, Tryz.results32, go_sem, j0, j1]) rfl ⟨by rw [E.out], belB⟩)
  · rw [bnd_no h] at W
    have E := Lib.hid (atnI_no h)
    clear h
    go_enter Tryz.func32, Tryz.ntmps32
    go_wp2_with fail
    refine (W.out _).mono ?_
    rintro e w1 ⟨rfl, hb1⟩
    have hs1 : _ ≤ w1.heap.size := hb1.size
    try simp at hs1
    have o_q10 : Own (w1) (w.heap.size + 1) 0 (.int .i64 0) := ownJ; have q10 := o_q10.1; have f_q10 := o_q10.2; have o_q11 : Own (w1) (w.heap.size + 1) 1 (.int .i64 0) := ownJ; have q11 := o_q11.1; have f_q11 := o_q11.2
    go_wp2_with fail
    refine (l07Quarter_any _).mono ?_
    rintro e w2 ⟨rfl, hb2⟩
    have hs2 : _ ≤ w2.heap.size := hb2.size
    try simp at hs2
    have o_q20 : Own (w2) (w.heap.size + 1) 0 (.int .i64 0) := ownJ; have q20 := o_q20.1; have f_q20 := o_q20.2; have o_q21 : Own (w2) (w.heap.size + 1) 1 (.int .i64 0) := ownJ; have q21 := o_q21.1; have f_q21 := o_q21.2
    go_wp2
    exact bodyPost_ret (v := .agg #[.int .i64 (-6746518853), .int .i64 6746518853]) (by simp [results, Tryz.results32, go_sem, q20, q21]) rfl ⟨(by first | (rw [E.out, qrtC]; done) | (rw [E.out, qrtC]; rfl) | (simp [E.out, qrtC]; done)), belB⟩
theorem sAsinAt_any (n : Int) (hn : In64 n) (w : World) : Calls Tryz.prog 23 #[.int .i64 n] w fun e w' =>
    e = .returned (.agg #[.int .i64 (asnF n).1, .int .i64 (asnF n).2]) ∧ Below w.heap.size w w' := by
  by_cases h : InR n
  · have LN := Lib.hid (fun w => l00In_yes n (-4294967296) 4294967296 h.1 h.2 w)
    have S := Lib.hid (fun w => l05At_any n w)
    have I := Lib.hid (fun w => sInteger_any 1 (by unfold In64; omega) w)
    have K := Lib.hid (fun w => sCircleAt_any n w)
    have A := Lib.hid (fun w => sAddI_any (intI 1) (cirC n) w)
    have Q := Lib.hid (fun w => sDivI_any (n, n) (addI (intI 1) (cirC n)) w)
    have T := Lib.hid (fun w => sAtanI_any (divI (n, n) (addI (intI 1) (cirC n))) w)
    have B := Lib.hid (fun w => sDoubleI_any (asnT n) w)
    have HC := Lib.hid (fun w => l07Quarter_any w)
    have M := Lib.hid (fun w => sMeetI_any (addI (asnT n) (asnT n)) qrtC w)
    have E := Lib.hid (show asnF n = metI (addI (asnT n) (asnT n)) qrtC from if_pos h)
    have eT : atnI (divI (n, n) (addI (intI 1) (cirC n))) = asnT n := rfl
    rw [eT] at T
    clear h hn eT
    generalize olpI (addI (asnT n) (asnT n)) qrtC = ob at *
    generalize metI (addI (asnT n) (asnT n)) qrtC = z at *
    generalize addI (asnT n) (asnT n) = t2 at *
    generalize asnT n = t at *
    generalize divI (n, n) (addI (intI 1) (cirC n)) = d at *
    generalize addI (intI 1) (cirC n) = a at *
    generalize cirC n = c at *
    generalize intI 1 = i at *
    go_enter Tryz.func23, Tryz.ntmps23
    go_wp2_with fail
    refine (LN.out _).mono ?_
    rintro e w0 ⟨rfl, hw⟩
    subst w0
    go_wp2_with fail
    refine (S.out _).mono ?_
    rintro e w2 ⟨rfl, hb2⟩
    have hs2 : _ ≤ w2.heap.size := hb2.size
    try simp at hs2
    have o_q20 : Own (w2) (w.heap.size) 0 (.int .i64 0) := ownJ; have q20 := o_q20.1; have f_q20 := o_q20.2; have o_q21 : Own (w2) (w.heap.size) 1 (.int .i64 0) := ownJ; have q21 := o_q21.1; have f_q21 := o_q21.2
    go_wp2_with fail
    refine (I.out _).mono ?_
    rintro e w3 ⟨rfl, hb3⟩
    have hs3 : _ ≤ w3.heap.size := hb3.size
    try simp at hs3
    have o_q30 : Own (w3) (w.heap.size) 0 (.int .i64 0) := ownJ; have q30 := o_q30.1; have f_q30 := o_q30.2; have o_q31 : Own (w3) (w.heap.size) 1 (.int .i64 0) := ownJ; have q31 := o_q31.1; have f_q31 := o_q31.2
    go_wp2_with fail
    refine (K.out _).mono ?_
    rintro e w4 ⟨rfl, hb4⟩
    have hs4 : _ ≤ w4.heap.size := hb4.size
    try simp at hs4
    have o_q40 : Own (w4) (w.heap.size) 0 (.int .i64 0) := ownJ; have q40 := o_q40.1; have f_q40 := o_q40.2; have o_q41 : Own (w4) (w.heap.size) 1 (.int .i64 0) := ownJ; have q41 := o_q41.1; have f_q41 := o_q41.2
    go_wp2_with fail
    refine (A.out _).mono ?_
    rintro e w5 ⟨rfl, hb5⟩
    have hs5 : _ ≤ w5.heap.size := hb5.size
    try simp at hs5
    have o_q50 : Own (w5) (w.heap.size) 0 (.int .i64 0) := ownJ; have q50 := o_q50.1; have f_q50 := o_q50.2; have o_q51 : Own (w5) (w.heap.size) 1 (.int .i64 0) := ownJ; have q51 := o_q51.1; have f_q51 := o_q51.2
    go_wp2_with fail
    refine (Q.out _).mono ?_
    rintro e w6 ⟨rfl, hb6⟩
    have hs6 : _ ≤ w6.heap.size := hb6.size
    try simp at hs6
    have o_q60 : Own (w6) (w.heap.size) 0 (.int .i64 0) := ownJ; have q60 := o_q60.1; have f_q60 := o_q60.2; have o_q61 : Own (w6) (w.heap.size) 1 (.int .i64 0) := ownJ; have q61 := o_q61.1; have f_q61 := o_q61.2
    go_wp2_with fail
    refine (T.out _).mono ?_
    rintro e w7 ⟨rfl, hb7⟩
    have hs7 : _ ≤ w7.heap.size := hb7.size
    try simp at hs7
    have o_q70 : Own (w7) (w.heap.size) 0 (.int .i64 0) := ownJ; have q70 := o_q70.1; have f_q70 := o_q70.2; have o_q71 : Own (w7) (w.heap.size) 1 (.int .i64 0) := ownJ; have q71 := o_q71.1; have f_q71 := o_q71.2
    go_wp2_with fail
    refine (B.out _).mono ?_
    rintro e w8 ⟨rfl, hb8⟩
    have hs8 : _ ≤ w8.heap.size := hb8.size
    try simp at hs8
    have o_q80 : Own (w8) (w.heap.size) 0 (.int .i64 0) := ownJ; have q80 := o_q80.1; have f_q80 := o_q80.2; have o_q81 : Own (w8) (w.heap.size) 1 (.int .i64 0) := ownJ; have q81 := o_q81.1; have f_q81 := o_q81.2
    have zz10 : w.heap.size < w8.heap.size := World.block_lt_of_cell? _ _ q80; obtain ⟨zz10a, zz10b, zz10c, zz10d, zz10e, zz10f, zz10g, zz10h, zz10i⟩ := below_more zz10; have zn10 : ¬ w.heap.size = w8.heap.size := Nat.ne_of_lt zz10; have zm10 : ¬ w8.heap.size = w.heap.size := Nat.ne_of_gt zz10
    go_wp2_with fail
    obtain ⟨hlt2, hlt3, hlt4, hlt5, hlt6, hlt7, hlt8, hlt9, hlt10, hlt11⟩ := below_add; go_region_held3 (fun w' => w'.cell? ⟨w8.heap.size, 0, none⟩ = some (.int .i64 t2.1) ∧ w'.cell? ⟨w8.heap.size, 1, none⟩ = some (.int .i64 t2.2)) (first | (with_reducible exact ((And.imp (cell_kept (by assumption)) (cell_kept (by assumption))) (by assumption))) | (with_reducible exact ((And.imp (cell_alloc) (cell_alloc)) (by assumption))) | (with_reducible exact ((And.imp (fun h => cell_far (by first | (simp; done) | (simp; omega) | (dsimp only; omega)) (cell_far (by first | (simp; done) | (simp; omega) | (dsimp only; omega)) h)) (fun h => cell_far (by first | (simp; done) | (simp; omega) | (dsimp only; omega)) (cell_far (by first | (simp; done) | (simp; omega) | (dsimp only; omega)) h))) (by assumption))) | (refine ⟨?_, ?_⟩ <;> repeat (first | (with_reducible assumption) | (with_reducible refine cell_far (by first | (simp; done) | (simp; omega) | (dsimp only; omega)) ?_) | (with_reducible refine cell_drew ?_) | (with_reducible refine cell_drewN ?_) | (with_reducible refine cell_kept (by assumption) ?_) | (simp [go_sem]; done) | (with_reducible refine cell_alloc ?_))) | (simp [go_sem, *]; done)) (first | (go_at_call 68; refine (HC.out _).mono ?_; rintro e w1 ⟨rfl, hb⟩; have hs : _ ≤ w1.heap.size := hb.size; (try simp at hs); obtain ⟨hc, hf, hl, hn, hm⟩ := behind hb) | (go_at_call 67; refine (M.out _).mono ?_; rintro e w1 ⟨rfl, hb⟩; have hs : _ ≤ w1.heap.size := hb.size; (try simp at hs); obtain ⟨hc, hf, hl, hn, hm⟩ := behind hb))
    rotate_right
    · (have o_j0 : Own (w1) (w.heap.size) 0 (.int .i64 0) := ownJ; have j0 := o_j0.1; have f_j0 := o_j0.2; have o_j1 : Own (w1) (w.heap.size) 1 (.int .i64 0) := ownJ; have j1 := o_j1.1; have f_j1 := o_j1.2; have lz := World.block_lt_of_cell? _ _ j0; have o_nb0 : Own (w1) (w8.heap.size + 1) 0 (.int .i64 0) := (by repeat (first | (with_reducible assumption) | (with_reducible refine own_drew ?_) | (with_reducible refine own_drewN ?_) | (with_reducible refine own_kept (by assumption) ?_) | (refine ⟨?_, ?_⟩ <;> simp [go_sem]; done) | (with_reducible refine own_alloc ?_))); have nb0 := o_nb0.1; have f_nb0 := o_nb0.2; have o_nb1 : Own (w1) (w8.heap.size + 1) 1 (.int .i64 0) := (by repeat (first | (with_reducible assumption) | (with_reducible refine own_drew ?_) | (with_reducible refine own_drewN ?_) | (with_reducible refine own_kept (by assumption) ?_) | (refine ⟨?_, ?_⟩ <;> simp [go_sem]; done) | (with_reducible refine own_alloc ?_))); have nb1 := o_nb1.1; have f_nb1 := o_nb1.2; go_wp2; exact bodyPost_ret (v := .agg #[.int .i64 (z).1, .int .i64 (z).2]) (by simp [results, Tryz.results23, go_sem, j0, j1, lz]) rfl ⟨by rw [E.out], belB⟩)
    all_goals (have o_j0 : Own (w1) (w.heap.size) 0 (.int .i64 0) := ownJ; have j0 := o_j0.1; have f_j0 := o_j0.2; have o_j1 : Own (w1) (w.heap.size) 1 (.int .i64 0) := ownJ; have j1 := o_j1.1; have f_j1 := o_j1.2; have lz := World.block_lt_of_cell? _ _ j0; go_wp2; exact bodyPost_ret (v := .agg #[.int .i64 (z).1, .int .i64 (z).2]) (by simp [results, Tryz.results23, go_sem, j0, j1, lz]) rfl ⟨by rw [E.out], belB⟩)
  · have LN := Lib.hid (fun w => l00In_no n (-4294967296) 4294967296 (by unfold InR at h; omega) w)
    have E := Lib.hid (show asnF n = whl from if_neg h)
    clear h hn
    go_enter Tryz.func23, Tryz.ntmps23
    go_wp2_with fail
    refine (LN.out _).mono ?_
    rintro e w0 ⟨rfl, hw⟩
    subst w0
    go_wp2_with fail
    refine (sWhole_any _).mono ?_
    rintro e w1 ⟨rfl, hb1⟩
    have hs1 : _ ≤ w1.heap.size := hb1.size
    try simp at hs1
    have o_q10 : Own (w1) (w.heap.size) 0 (.int .i64 0) := ownJ; obtain ⟨q10, f_q10⟩ := o_q10; have o_q11 : Own (w1) (w.heap.size) 1 (.int .i64 0) := ownJ; obtain ⟨q11, f_q11⟩ := o_q11
    go_wp2
    exact bodyPost_ret (v := .agg #[.int .i64 (-1152921504606846976), .int .i64 1152921504606846976]) (by simp [results, Tryz.results23, go_sem, q10, q11]) rfl ⟨(by first | (rw [E.out]; done) | (rw [E.out]; rfl) | (simp [E.out]; done)), belB⟩
end Go.Proofs.YtmikjgbojknlnaaGreatDoor
