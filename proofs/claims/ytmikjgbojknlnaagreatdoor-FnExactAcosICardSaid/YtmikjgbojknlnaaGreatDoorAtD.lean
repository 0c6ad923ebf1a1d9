/- Contracts of arcs of numbers and of intervals in the program. Conditions: numbers are int64; the program's two intervals are laid. -/
import Derived.Test.YtmikjgbojknlnaaGreatDoorAtB
import Derived.Test.YtmikjgbojknlnaaGreatDoorAtC
import Derived.Deep.RegionHeld3
import Derived.Outline
namespace Go.Proofs.YtmikjgbojknlnaaGreatDoor
open Go.ChangeShapes Go.WideShapes Go.ChangeAt Go.RowKit
set_option linter.unusedVariables false
set_option maxRecDepth 100000
set_option linter.unusedSimpArgs false
set_option maxHeartbeats 1000000
theorem AtanAt_no (n : Int) (h : ¬ FixN n) (w : World) : Calls Tryz.prog 31 #[.int .i64 n] w fun e w' =>
    e = .returned (.agg #[.int .i64 (atnF n).1, .int .i64 (atnF n).2]) ∧ Below w.heap.size w w' := by
  have S := Lib.hid (fun w => single_any n w)
  have W := Lib.hid (fun w => IsWhole_any (n, n) w)
  have B : bnd (n, n) = false := bnd_no (fun k => h (by unfold Bnd at k; unfold FixN; simp only at k; omega))
  simp only [B] at W
  have E := Lib.hid (atnF_no h)
  have H := Lib.hid (fun w => halfCircle_any w)
  clear B h
  go_enter Tryz.func31, Tryz.ntmps31
  go_wp2_with fail
  refine (S.out _).mono ?_
  rintro e w1 ⟨rfl, hb1⟩
  have hs1 : _ ≤ w1.heap.size := hb1.size
  try simp at hs1
  have o_q10 : Own (w1) (w.heap.size) 0 (.int .i64 0) := ownJ; have q10 := o_q10.1; have f_q10 := o_q10.2; have o_q11 : Own (w1) (w.heap.size) 1 (.int .i64 0) := ownJ; have q11 := o_q11.1; have f_q11 := o_q11.2
  go_wp2_with fail
  refine (W.out _).mono ?_
  rintro e w2 ⟨rfl, hb2⟩
  have hs2 : _ ≤ w2.heap.size := hb2.size
  try simp at hs2
  have o_q20 : Own (w2) (w.heap.size) 0 (.int .i64 0) := ownJ; have q20 := o_q20.1; have f_q20 := o_q20.2; have o_q21 : Own (w2) (w.heap.size) 1 (.int .i64 0) := ownJ; have q21 := o_q21.1; have f_q21 := o_q21.2
  go_wp2_with fail
  refine (H.out _).mono ?_
  rintro e w3 ⟨rfl, hb3⟩
  have hs3 : _ ≤ w3.heap.size := hb3.size
  try simp at hs3
  have o_q30 : Own (w3) (w.heap.size) 0 (.int .i64 0) := ownJ; have q30 := o_q30.1; have f_q30 := o_q30.2; have o_q31 : Own (w3) (w.heap.size) 1 (.int .i64 0) := ownJ; have q31 := o_q31.1; have f_q31 := o_q31.2
  go_wp2
  exact bodyPost_ret (v := .agg #[.int .i64 (-6746518853), .int .i64 6746518853]) (by simp [results, Tryz.results31, go_sem, q30, q31]) rfl ⟨(by first | (rw [E.out, qrtC]; done) | (rw [E.out, qrtC]; rfl) | (simp [E.out, qrtC]; done)), belB⟩
theorem AtanAt_pos (n : Int) (h : FixN n) (p : 0 ≤ n) (w : World) (hg : GloT w) : Calls Tryz.prog 31 #[.int .i64 n] w fun e w' =>
    e = .returned (.agg #[.int .i64 (atnP n).1, .int .i64 (atnP n).2]) ∧ Below w.heap.size w w' := by
  have lgw := hg.lt
  have S := Lib.hid (fun w => single_any n w)
  have W := Lib.hid (fun w => IsWhole_any (n, n) w)
  have B : bnd (n, n) = true := bnd_yes (one_bnd h)
  simp only [B] at W
  have s0 : decide (n < 0) = false := decide_eq_false (by omega)
  have hok : Ok (n, n) := by unfold FixN at h; unfold Ok In64; simp only; omega
  by_cases k : 4294967296 < n
  · have k0 : decide (4294967296 < n) = true := decide_eq_true k
    have T := Lib.hid (fun w => TurnI_any 1 w)
    have I := Lib.hid (fun w => Integer_any 1 (by unfold In64; omega) w)
    have Q := Lib.hid (fun w => DivI_any (intI 1) (n, n) (int_ok 1) hok w)
    have R := Lib.hid (fun w hg => ringArc_any (divI (intI 1) (n, n)) (res_ok (div_res _ _)) w hg)
    have U := Lib.hid (fun w => SubI_any (turI 1) (rinA (divI (intI 1) (n, n))) w)
    have E := Lib.hid (show atnP n = subI (turI 1) (rinA (divI (intI 1) (n, n))) from if_pos k)
    clear h B k hok
    generalize subI (turI 1) (rinA (divI (intI 1) (n, n))) = z at *
    generalize rinA (divI (intI 1) (n, n)) = r at *
    generalize divI (intI 1) (n, n) = d at *
    generalize intI 1 = i at *
    generalize turI 1 = t at *
    go_enter Tryz.func31, Tryz.ntmps31
    go_wp2_with fail
    refine (S.out _).mono ?_
    rintro e w1 ⟨rfl, hb1⟩
    have hs1 : _ ≤ w1.heap.size := hb1.size
    try simp at hs1
    have o_q10 : Own (w1) (w.heap.size) 0 (.int .i64 0) := ownJ; have q10 := o_q10.1; have f_q10 := o_q10.2; have o_q11 : Own (w1) (w.heap.size) 1 (.int .i64 0) := ownJ; have q11 := o_q11.1; have f_q11 := o_q11.2
    have zz1 : w.heap.size < w1.heap.size := World.block_lt_of_cell? _ _ q10; obtain ⟨zz1a, zz1b, zz1c, zz1d, zz1e, zz1f, zz1g, zz1h, zz1i⟩ := below_more zz1; have zn1 : ¬ w.heap.size = w1.heap.size := Nat.ne_of_lt zz1; have zm1 : ¬ w1.heap.size = w.heap.size := Nat.ne_of_gt zz1
    go_wp2_with fail
    refine (W.out _).mono ?_
    rintro e w2 ⟨rfl, hb2⟩
    have hs2 : _ ≤ w2.heap.size := hb2.size
    try simp at hs2
    have o_q20 : Own (w2) (w.heap.size) 0 (.int .i64 0) := ownJ; have q20 := o_q20.1; have f_q20 := o_q20.2; have o_q21 : Own (w2) (w.heap.size) 1 (.int .i64 0) := ownJ; have q21 := o_q21.1; have f_q21 := o_q21.2
    have o_x20 : Own (w2) (w1.heap.size) 0 (.int .i64 n) := ownJ; have x20 := o_x20.1; have f_x20 := o_x20.2; have o_x21 : Own (w2) (w1.heap.size) 1 (.int .i64 n) := ownJ; have x21 := o_x21.1; have f_x21 := o_x21.2
    have zz2 : w.heap.size < w2.heap.size := World.block_lt_of_cell? _ _ q20; obtain ⟨zz2a, zz2b, zz2c, zz2d, zz2e, zz2f, zz2g, zz2h, zz2i⟩ := below_more zz2; have zn2 : ¬ w.heap.size = w2.heap.size := Nat.ne_of_lt zz2; have zm2 : ¬ w2.heap.size = w.heap.size := Nat.ne_of_gt zz2
    have zz3 : w1.heap.size < w2.heap.size := World.block_lt_of_cell? _ _ x20; obtain ⟨zz3a, zz3b, zz3c, zz3d, zz3e, zz3f, zz3g, zz3h, zz3i⟩ := below_more zz3; have zn3 : ¬ w1.heap.size = w2.heap.size := Nat.ne_of_lt zz3; have zm3 : ¬ w2.heap.size = w1.heap.size := Nat.ne_of_gt zz3
    go_wp2_with fail
    obtain ⟨g2, g3⟩ : GloT w2 := (by repeat (first | (with_reducible assumption) | (with_reducible refine GloT.drew ?_) | (with_reducible refine GloT.kept ?_ (by assumption)) | (with_reducible refine GloT.alloc ?_ _)))
    have l1 : 1 < w2.heap.size := World.block_lt_of_cell? _ _ g2
    have z0 := pslot_of (w := w2) (a := ⟨w.heap.size, 0, none⟩) (v := .int .i64 0) o_q20.1 o_q20.2
    have z1 := pslot_of (w := w2) (a := ⟨w.heap.size, 1, none⟩) (v := .int .i64 0) o_q21.1 o_q21.2
    obtain ⟨hlt2, hlt3, hlt4, hlt5, hlt6, hlt7, hlt8, hlt9, hlt10, hlt11⟩ := below_add; go_region_held3 (fun w' => w'.cell? ⟨w1.heap.size, 0, none⟩ = some (.int .i64 n) ∧ w'.cell? ⟨w1.heap.size, 1, none⟩ = some (.int .i64 n) ∧ w'.cell? ⟨1, 0, none⟩ = some (.int .i64 (-1)) ∧ w'.cell? ⟨1, 1, none⟩ = some (.int .i64 1) ∧ (w'.cell? ⟨w.heap.size, 0, none⟩ = some (peek w' ⟨w.heap.size, 0, none⟩) ∧ w'.frozen? ⟨w.heap.size, 0, none⟩ = false) ∧ (w'.cell? ⟨w.heap.size, 1, none⟩ = some (peek w' ⟨w.heap.size, 1, none⟩) ∧ w'.frozen? ⟨w.heap.size, 1, none⟩ = false)) (first | (with_reducible exact ((And.imp (cell_kept (by assumption)) (And.imp (cell_kept (by assumption)) (And.imp (cell_kept (by assumption)) (And.imp (cell_kept (by assumption)) (And.imp (pslot_kept (by assumption)) (pslot_kept (by assumption))))))) (by assumption))) | (with_reducible exact ((And.imp (cell_alloc) (And.imp (cell_alloc) (And.imp (cell_alloc) (And.imp (cell_alloc) (And.imp (pslot_alloc) (pslot_alloc)))))) (by assumption))) | (with_reducible exact ((And.imp (fun h => cell_far (by first | (simp; done) | (simp; omega) | (dsimp only; omega)) (cell_far (by first | (simp; done) | (simp; omega) | (dsimp only; omega)) h)) (And.imp (fun h => cell_far (by first | (simp; done) | (simp; omega) | (dsimp only; omega)) (cell_far (by first | (simp; done) | (simp; omega) | (dsimp only; omega)) h)) (And.imp (fun h => cell_far (by first | (simp; done) | (simp; omega) | (dsimp only; omega)) (cell_far (by first | (simp; done) | (simp; omega) | (dsimp only; omega)) h)) (And.imp (fun h => cell_far (by first | (simp; done) | (simp; omega) | (dsimp only; omega)) (cell_far (by first | (simp; done) | (simp; omega) | (dsimp only; omega)) h)) (And.imp (fun h => pslot_set (pslot_set h)) (fun h => pslot_set (pslot_set h))))))) (by assumption))) | (refine ⟨?_, ?_, ?_, ?_, ?_, ?_⟩ <;> repeat (first | (with_reducible assumption) | (with_reducible refine cell_far (by first | (simp; done) | (simp; omega) | (dsimp only; omega)) ?_) | (with_reducible refine cell_drew ?_) | (with_reducible refine cell_drewN ?_) | (with_reducible refine cell_kept (by assumption) ?_) | (with_reducible exact pslot_of (by assumption) (by assumption)) | (with_reducible refine pslot_drew ?_) | (with_reducible refine pslot_kept (by assumption) ?_) | (with_reducible refine pslot_alloc ?_) | (simp [go_sem]; done) | (with_reducible refine cell_alloc ?_))) | (simp [go_sem, *]; done)) (first | (go_at_call 85; refine (T.out _).mono ?_; rintro e w1 ⟨rfl, hb⟩; have hs : _ ≤ w1.heap.size := hb.size; (try simp at hs); obtain ⟨hc, hf, hl, hn, hm⟩ := behind hb) | (go_at_call 74; refine (I.out _).mono ?_; rintro e w1 ⟨rfl, hb⟩; have hs : _ ≤ w1.heap.size := hb.size; (try simp at hs); obtain ⟨hc, hf, hl, hn, hm⟩ := behind hb) | (go_at_call 71; refine (Q.out _).mono ?_; rintro e w1 ⟨rfl, hb⟩; have hs : _ ≤ w1.heap.size := hb.size; (try simp at hs); obtain ⟨hc, hf, hl, hn, hm⟩ := behind hb) | (go_at_call 90; refine (R.out _ (GloT.mk (by simp [go_sem, *]) (by simp [go_sem, *]))).mono ?_; rintro e w1 ⟨rfl, hb⟩; have hs : _ ≤ w1.heap.size := hb.size; (try simp at hs); obtain ⟨hc, hf, hl, hn, hm⟩ := behind hb) | (go_at_call 84; refine (U.out _).mono ?_; rintro e w1 ⟨rfl, hb⟩; have hs : _ ≤ w1.heap.size := hb.size; (try simp at hs); obtain ⟨hc, hf, hl, hn, hm⟩ := behind hb))
    all_goals (go_wp2; have o_j0 : Own (w1) (w.heap.size) 0 (.int .i64 0) := ownJ; obtain ⟨j0, f_j0⟩ := o_j0; have o_j1 : Own (w1) (w.heap.size) 1 (.int .i64 0) := ownJ; obtain ⟨j1, f_j1⟩ := o_j1; exact bodyPost_ret (v := .agg #[.int .i64 (z).1, .int .i64 (z).2]) (by simp [results, Tryz.results31, go_sem, j0, j1]) rfl ⟨by rw [E.out], belB⟩)
  · have k0 : decide (4294967296 < n) = false := decide_eq_false k
    have R := Lib.hid (fun w hg => ringArc_any (n, n) hok w hg)
    have E := Lib.hid (show atnP n = rinA (n, n) from if_neg k)
    clear h B k hok
    generalize rinA (n, n) = r at *
    go_enter Tryz.func31, Tryz.ntmps31
    go_wp2_with fail
    refine (S.out _).mono ?_
    rintro e w1 ⟨rfl, hb1⟩
    have hs1 : _ ≤ w1.heap.size := hb1.size
    try simp at hs1
    have o_q10 : Own (w1) (w.heap.size) 0 (.int .i64 0) := ownJ; have q10 := o_q10.1; have f_q10 := o_q10.2; have o_q11 : Own (w1) (w.heap.size) 1 (.int .i64 0) := ownJ; have q11 := o_q11.1; have f_q11 := o_q11.2
    have zz1 : w.heap.size < w1.heap.size := World.block_lt_of_cell? _ _ q10; obtain ⟨zz1a, zz1b, zz1c, zz1d, zz1e, zz1f, zz1g, zz1h, zz1i⟩ := below_more zz1; have zn1 : ¬ w.heap.size = w1.heap.size := Nat.ne_of_lt zz1; have zm1 : ¬ w1.heap.size = w.heap.size := Nat.ne_of_gt zz1
    go_wp2_with fail
    refine (W.out _).mono ?_
    rintro e w2 ⟨rfl, hb2⟩
    have hs2 : _ ≤ w2.heap.size := hb2.size
    try simp at hs2
    have o_q20 : Own (w2) (w.heap.size) 0 (.int .i64 0) := ownJ; have q20 := o_q20.1; have f_q20 := o_q20.2; have o_q21 : Own (w2) (w.heap.size) 1 (.int .i64 0) := ownJ; have q21 := o_q21.1; have f_q21 := o_q21.2
    have o_x20 : Own (w2) (w1.heap.size) 0 (.int .i64 n) := ownJ; have x20 := o_x20.1; have f_x20 := o_x20.2; have o_x21 : Own (w2) (w1.heap.size) 1 (.int .i64 n) := ownJ; have x21 := o_x21.1; have f_x21 := o_x21.2
    go_wp2_with fail
    refine (R.out _ (by repeat (first | (with_reducible assumption) | (with_reducible refine GloT.drew ?_) | (with_reducible refine GloT.kept ?_ (by assumption)) | (with_reducible refine GloT.alloc ?_ _)))).mono ?_
    rintro e w3 ⟨rfl, hb3⟩
    have hs3 : _ ≤ w3.heap.size := hb3.size
    try simp at hs3
    have o_q30 : Own (w3) (w.heap.size) 0 (.int .i64 0) := ownJ; have q30 := o_q30.1; have f_q30 := o_q30.2; have o_q31 : Own (w3) (w.heap.size) 1 (.int .i64 0) := ownJ; have q31 := o_q31.1; have f_q31 := o_q31.2
    go_wp2
    exact bodyPost_ret (v := .agg #[.int .i64 (r).1, .int .i64 (r).2]) (by simp [results, Tryz.results31, go_sem, q30, q31]) rfl ⟨by rw [E.out], belB⟩
theorem AtanAt_neg (n : Int) (h : FixN n) (p : n < 0) (w : World) (hg : GloT w) : Calls Tryz.prog 31 #[.int .i64 n] w fun e w' =>
    e = .returned (.agg #[.int .i64 (negI (atnP (-n))).1, .int .i64 (negI (atnP (-n))).2]) ∧ Below w.heap.size w w' := by
  have S := Lib.hid (fun w => single_any n w)
  have W := Lib.hid (fun w => IsWhole_any (n, n) w)
  have B : bnd (n, n) = true := bnd_yes (one_bnd h)
  simp only [B] at W
  have s0 : decide (n < 0) = true := decide_eq_true p
  have WN : IntKind.i64.wrap (-n) = -n := by unfold FixN at h; rw [IntKind.wrap_i64]; omega
  have R := Lib.hid (fun w hg => AtanAt_pos (-n) (by unfold FixN at *; omega) (by omega) w hg)
  have U := Lib.hid (fun w => NegI_any (atnP (-n)) w)
  clear h B p
  generalize negI (atnP (-n)) = z at *
  generalize atnP (-n) = r at *
  go_enter Tryz.func31, Tryz.ntmps31
  go_wp2_with fail
  refine (S.out _).mono ?_
  rintro e w1 ⟨rfl, hb1⟩
  have hs1 : _ ≤ w1.heap.size := hb1.size
  try simp at hs1
  have o_q10 : Own (w1) (w.heap.size) 0 (.int .i64 0) := ownJ; have q10 := o_q10.1; have f_q10 := o_q10.2; have o_q11 : Own (w1) (w.heap.size) 1 (.int .i64 0) := ownJ; have q11 := o_q11.1; have f_q11 := o_q11.2
  go_wp2_with fail
  refine (W.out _).mono ?_
  rintro e w2 ⟨rfl, hb2⟩
  have hs2 : _ ≤ w2.heap.size := hb2.size
  try simp at hs2
  have o_q20 : Own (w2) (w.heap.size) 0 (.int .i64 0) := ownJ; have q20 := o_q20.1; have f_q20 := o_q20.2; have o_q21 : Own (w2) (w.heap.size) 1 (.int .i64 0) := ownJ; have q21 := o_q21.1; have f_q21 := o_q21.2
  go_wp2_with fail
  refine (R.out _ (by repeat (first | (with_reducible assumption) | (with_reducible refine GloT.drew ?_) | (with_reducible refine GloT.kept ?_ (by assumption)) | (with_reducible refine GloT.alloc ?_ _)))).mono ?_
  rintro e w3 ⟨rfl, hb3⟩
  have hs3 : _ ≤ w3.heap.size := hb3.size
  try simp at hs3
  have o_q30 : Own (w3) (w.heap.size) 0 (.int .i64 0) := ownJ; have q30 := o_q30.1; have f_q30 := o_q30.2; have o_q31 : Own (w3) (w.heap.size) 1 (.int .i64 0) := ownJ; have q31 := o_q31.1; have f_q31 := o_q31.2
  go_wp2_with fail
  refine (U.out _).mono ?_
  rintro e w4 ⟨rfl, hb4⟩
  have hs4 : _ ≤ w4.heap.size := hb4.size
  try simp at hs4
  have o_q40 : Own (w4) (w.heap.size) 0 (.int .i64 0) := ownJ; have q40 := o_q40.1; have f_q40 := o_q40.2; have o_q41 : Own (w4) (w.heap.size) 1 (.int .i64 0) := ownJ; have q41 := o_q41.1; have f_q41 := o_q41.2
  go_wp2
  exact bodyPost_ret (v := .agg #[.int .i64 (z).1, .int .i64 (z).2]) (by simp [results, Tryz.results31, go_sem, q40, q41]) rfl ⟨rfl, belB⟩
theorem AtanAt_any (n : Int) (w : World) (hg : GloT w) : Calls Tryz.prog 31 #[.int .i64 n] w fun e w' =>
    e = .returned (.agg #[.int .i64 (atnF n).1, .int .i64 (atnF n).2]) ∧ Below w.heap.size w w' := by
  by_cases h : FixN n
  · by_cases p : n < 0
    · rw [show atnF n = negI (atnP (-n)) by unfold atnF; rw [if_pos h, if_pos p]]
      exact AtanAt_neg n h p w hg
    · rw [show atnF n = atnP n by unfold atnF; rw [if_pos h, if_neg p]]
      exact AtanAt_pos n h (by omega) w hg
  · exact AtanAt_no n h w
theorem AtanI_any (x : Iv) (w : World) (hg : GloT w) : Calls Tryz.prog 33 #[.agg #[.int .i64 x.1, .int .i64 x.2]] w fun e w' =>
    e = .returned (.agg #[.int .i64 (atnI x).1, .int .i64 (atnI x).2]) ∧ Below w.heap.size w w' := by
  have C := Lib.hid (fun w => canonical_any x w)
  have A1 := Lib.hid (fun w hg => AtanAt_any (can x).1 w hg)
  have A2 := Lib.hid (fun w hg => AtanAt_any (can x).2 w hg)
  have H := Lib.hid (fun w => HullI_any (atnF (can x).1) (atnF (can x).2) w)
  have E := Lib.hid (show atnI x = hulI (atnF (can x).1) (atnF (can x).2) from rfl)
  generalize atnI x = Y at *
  generalize hulI (atnF (can x).1) (atnF (can x).2) = z at *
  generalize atnF (can x).1 = a1 at *
  generalize atnF (can x).2 = a2 at *
  generalize can x = c at *
  have lg := hg.lt
  go_enter Tryz.func33, Tryz.ntmps33
  go_wp2_with fail
  refine (C.out _).mono ?_
  rintro e w1 ⟨rfl, hb1⟩
  have hs1 : _ ≤ w1.heap.size := hb1.size
  try simp at hs1
  have o_q10 : Own (w1) (w.heap.size + 1) 0 (.int .i64 0) := ownJ; have q10 := o_q10.1; have f_q10 := o_q10.2; have o_q11 : Own (w1) (w.heap.size + 1) 1 (.int .i64 0) := ownJ; have q11 := o_q11.1; have f_q11 := o_q11.2
  have o_x10 : Own (w1) (w.heap.size) 0 (.int .i64 x.1) := ownJ; have x10 := o_x10.1; have f_x10 := o_x10.2; have o_x11 : Own (w1) (w.heap.size) 1 (.int .i64 x.2) := ownJ; have x11 := o_x11.1; have f_x11 := o_x11.2
  have hg1 : GloT w1 := (by repeat (first | (with_reducible assumption) | (with_reducible refine GloT.drew ?_) | (with_reducible refine GloT.kept ?_ (by assumption)) | (with_reducible refine GloT.alloc ?_ _)))
  have zz1 : w.heap.size < w1.heap.size := World.block_lt_of_cell? _ _ x10; obtain ⟨zz1a, zz1b, zz1c, zz1d, zz1e, zz1f, zz1g, zz1h, zz1i⟩ := below_more zz1; have zn1 : ¬ w.heap.size = w1.heap.size := Nat.ne_of_lt zz1; have zm1 : ¬ w1.heap.size = w.heap.size := Nat.ne_of_gt zz1
  have zz2 : w.heap.size + 1 < w1.heap.size := World.block_lt_of_cell? _ _ q10; obtain ⟨zz2a, zz2b, zz2c, zz2d, zz2e, zz2f, zz2g, zz2h, zz2i⟩ := below_more zz2; have zn2 : ¬ w.heap.size + 1 = w1.heap.size := Nat.ne_of_lt zz2; have zm2 : ¬ w1.heap.size = w.heap.size + 1 := Nat.ne_of_gt zz2
  go_wp2_with fail
  obtain ⟨u, hu⟩ : ∃ u, u = (w1.setCell ⟨w.heap.size, 0, none⟩ (.int .i64 c.1)).setCell ⟨w.heap.size, 1, none⟩ (.int .i64 c.2) := ⟨_, rfl⟩
  rw [← hu]
  have o_u0 : Own u w.heap.size 0 (.int .i64 c.1) := by rw [hu]; exact own_next (by decide) (own_put o_x10)
  have o_u1 : Own u w.heap.size 1 (.int .i64 c.2) := by rw [hu]; exact own_put (own_next (by decide) o_x11)
  have o_r0 : Own u (w.heap.size + 1) 0 (.int .i64 0) := by rw [hu]; exact own_far (by simp) (own_far (by simp) o_q10)
  have o_r1 : Own u (w.heap.size + 1) 1 (.int .i64 0) := by rw [hu]; exact own_far (by simp) (own_far (by simp) o_q11)
  have hgu : GloT u := by rw [hu]; exact (hg1.set (by dsimp only; omega)).set (by dsimp only; omega)
  have bu : Below w.heap.size w u := by rw [hu]; exact belB
  have su := bu.size
  obtain ⟨u0, u1⟩ := And.intro o_u0.1 o_u1.1
  have lu : w.heap.size + 1 < u.heap.size := World.block_lt_of_cell? _ _ o_r0.1
  have lu2 : w.heap.size < u.heap.size := by omega
  clear hu hb1 hs1 o_q10 o_q11 q10 f_q10 q11 f_q11 o_x10 o_x11 x10 f_x10 x11 f_x11 zz1 zz1a zz1b zz1c zz1d zz1e zz1f zz1g zz1h zz1i zz2 zz2a zz2b zz2c zz2d zz2e zz2f zz2g zz2h zz2i zn1 zm1 zn2 zm2 hg1
  obtain ⟨g2, g3⟩ : GloT u := hgu
  have l1 : 1 < u.heap.size := World.block_lt_of_cell? _ _ g2
  have z0 := pslot_of (w := u) (a := ⟨w.heap.size + 1, 0, none⟩) (v := .int .i64 0) o_r0.1 o_r0.2
  have z1 := pslot_of (w := u) (a := ⟨w.heap.size + 1, 1, none⟩) (v := .int .i64 0) o_r1.1 o_r1.2
  obtain ⟨hlt2, hlt3, hlt4, hlt5, hlt6, hlt7, hlt8, hlt9, hlt10, hlt11⟩ := below_add; go_region_held3 (fun w' => w'.cell? ⟨w.heap.size, 0, none⟩ = some (.int .i64 c.1) ∧ w'.cell? ⟨w.heap.size, 1, none⟩ = some (.int .i64 c.2) ∧ w'.cell? ⟨1, 0, none⟩ = some (.int .i64 (-1)) ∧ w'.cell? ⟨1, 1, none⟩ = some (.int .i64 1) ∧ (w'.cell? ⟨w.heap.size + 1, 0, none⟩ = some (peek w' ⟨w.heap.size + 1, 0, none⟩) ∧ w'.frozen? ⟨w.heap.size + 1, 0, none⟩ = false) ∧ (w'.cell? ⟨w.heap.size + 1, 1, none⟩ = some (peek w' ⟨w.heap.size + 1, 1, none⟩) ∧ w'.frozen? ⟨w.heap.size + 1, 1, none⟩ = false)) (first | (with_reducible exact ((And.imp (cell_kept (by assumption)) (And.imp (cell_kept (by assumption)) (And.imp (cell_kept (by assumption)) (And.imp (cell_kept (by assumption)) (And.imp (pslot_kept (by assumption)) (pslot_kept (by assumption))))))) (by assumption))) | (with_reducible exact ((And.imp (cell_alloc) (And.imp (cell_alloc) (And.imp (cell_alloc) (And.imp (cell_alloc) (And.imp (pslot_alloc) (pslot_alloc)))))) (by assumption))) | (with_reducible exact ((And.imp (fun h => cell_far (by first | (simp; done) | (simp; omega) | (dsimp only; omega)) (cell_far (by first | (simp; done) | (simp; omega) | (dsimp only; omega)) h)) (And.imp (fun h => cell_far (by first | (simp; done) | (simp; omega) | (dsimp only; omega)) (cell_far (by first | (simp; done) | (simp; omega) | (dsimp only; omega)) h)) (And.imp (fun h => cell_far (by first | (simp; done) | (simp; omega) | (dsimp only; omega)) (cell_far (by first | (simp; done) | (simp; omega) | (dsimp only; omega)) h)) (And.imp (fun h => cell_far (by first | (simp; done) | (simp; omega) | (dsimp only; omega)) (cell_far (by first | (simp; done) | (simp; omega) | (dsimp only; omega)) h)) (And.imp (fun h => pslot_set (pslot_set h)) (fun h => pslot_set (pslot_set h))))))) (by assumption))) | (refine ⟨?_, ?_, ?_, ?_, ?_, ?_⟩ <;> repeat (first | (with_reducible assumption) | (with_reducible refine cell_far (by first | (simp; done) | (simp; omega) | (dsimp only; omega)) ?_) | (with_reducible refine cell_drew ?_) | (with_reducible refine cell_drewN ?_) | (with_reducible refine cell_kept (by assumption) ?_) | (with_reducible exact pslot_of (by assumption) (by assumption)) | (with_reducible refine pslot_drew ?_) | (with_reducible refine pslot_kept (by assumption) ?_) | (with_reducible refine pslot_alloc ?_) | (simp [go_sem]; done) | (with_reducible refine cell_alloc ?_))) | (simp [go_sem, *]; done)) (first | (go_at_call 31; with_reducible refine (A1.out _ (GloT.mk (by simp [go_sem, *]) (by simp [go_sem, *]))).mono ?_; rintro e w1 ⟨rfl, hb⟩; have hs : _ ≤ w1.heap.size := hb.size; (try simp at hs); obtain ⟨hc, hf, hl, hn, hm⟩ := behind hb) | (go_at_call 31; with_reducible refine (A2.out _ (GloT.mk (by simp [go_sem, *]) (by simp [go_sem, *]))).mono ?_; rintro e w1 ⟨rfl, hb⟩; have hs : _ ≤ w1.heap.size := hb.size; (try simp at hs); obtain ⟨hc, hf, hl, hn, hm⟩ := behind hb) | (go_at_call 81; refine (H.out _).mono ?_; rintro e w1 ⟨rfl, hb⟩; have hs : _ ≤ w1.heap.size := hb.size; (try simp at hs); obtain ⟨hc, hf, hl, hn, hm⟩ := behind hb))
  all_goals (go_wp2; have o_j0 : Own (w1) (w.heap.size + 1) 0 (.int .i64 0) := ownJ; obtain ⟨j0, f_j0⟩ := o_j0; have o_j1 : Own (w1) (w.heap.size + 1) 1 (.int .i64 0) := ownJ; obtain ⟨j1, f_j1⟩ := o_j1; exact bodyPost_ret (v := .agg #[.int .i64 (z).1, .int .i64 (z).2]) (by simp [results, Tryz.results33, go_sem, j0, j1]) rfl ⟨by rw [E.out], belB⟩)
theorem AsinAt_any (n : Int) (hn : In64 n) (w : World) (hg : Glo w) : Calls Tryz.prog 24 #[.int .i64 n] w fun e w' =>
    e = .returned (.agg #[.int .i64 (asnF n).1, .int .i64 (asnF n).2]) ∧ Below w.heap.size w w' := by
  have HH := Lib.hid (fun w => HasI_any rng n w)
  by_cases h : InR n
  · have hh : hasI rng n = true := by unfold hasI rng; unfold InR at h; simp; omega
    rw [hh] at HH
    have S := Lib.hid (fun w => single_any n w)
    have I := Lib.hid (fun w => Integer_any 1 (by unfold In64; omega) w)
    have K := Lib.hid (fun w hg => CircleAt_any n w hg)
    have A := Lib.hid (fun w => AddI_any (intI 1) (cirC n) w)
    have Q := Lib.hid (fun w => DivI_any (n, n) (addI (intI 1) (cirC n)) ⟨hn, hn⟩ (res_ok (add_res _ _)) w)
    have T := Lib.hid (fun w hg => AtanI_any (divI (n, n) (addI (intI 1) (cirC n))) w hg)
    have B := Lib.hid (fun w => DoubleI_any (asnT n) w)
    have HC := Lib.hid (fun w => halfCircle_any w)
    have M := Lib.hid (fun w => MeetI_any (addI (asnT n) (asnT n)) qrtC w)
    have E := Lib.hid (show asnF n = metI (addI (asnT n) (asnT n)) qrtC from if_pos h)
    have eT : atnI (divI (n, n) (addI (intI 1) (cirC n))) = asnT n := rfl
    rw [eT] at T
    clear h hh hn eT
    generalize olpI (addI (asnT n) (asnT n)) qrtC = ob at *
    generalize metI (addI (asnT n) (asnT n)) qrtC = z at *
    generalize addI (asnT n) (asnT n) = t2 at *
    generalize asnT n = t at *
    generalize divI (n, n) (addI (intI 1) (cirC n)) = d at *
    generalize addI (intI 1) (cirC n) = a at *
    generalize cirC n = c at *
    generalize intI 1 = i at *
    go_enter Tryz.func24, Tryz.ntmps24
    have g0 := hg.1
    have g1 := hg.2.1
    have lg0 : 0 < w.heap.size := World.block_lt_of_cell? _ _ g0
    go_wp2_with fail
    refine (HH.out _).mono ?_
    rintro e w1 ⟨rfl, hb1⟩
    have hs1 : _ ≤ w1.heap.size := hb1.size
    try simp at hs1
    have o_q10 : Own (w1) (w.heap.size) 0 (.int .i64 0) := ownJ; have q10 := o_q10.1; have f_q10 := o_q10.2; have o_q11 : Own (w1) (w.heap.size) 1 (.int .i64 0) := ownJ; have q11 := o_q11.1; have f_q11 := o_q11.2
    go_wp2_with fail
    refine (S.out _).mono ?_
    rintro e w2 ⟨rfl, hb2⟩
    have hs2 : _ ≤ w2.heap.size := hb2.size
    try simp at hs2
    have o_q20 : Own (w2) (w.heap.size) 0 (.int .i64 0) := ownJ; have q20 := o_q20.1; have f_q20 := o_q20.2; have o_q21 : Own (w2) (w.heap.size) 1 (.int .i64 0) := ownJ; have q21 := o_q21.1; have f_q21 := o_q21.2
    go_wp2_with fail
    refine (I.out _).mono ?_
    rintro e w3 ⟨rfl, hb3⟩
    have hs3 : _ ≤ w3.heap.size := hb3.size
    try simp at hs3
    have o_q30 : Own (w3) (w.heap.size) 0 (.int .i64 0) := ownJ; have q30 := o_q30.1; have f_q30 := o_q30.2; have o_q31 : Own (w3) (w.heap.size) 1 (.int .i64 0) := ownJ; have q31 := o_q31.1; have f_q31 := o_q31.2
    go_wp2_with fail
    refine (K.out _ (Glo.r (by repeat (first | (with_reducible assumption) | (with_reducible refine Glo.drew ?_) | (with_reducible refine Glo.kept ?_ (by assumption)) | (with_reducible refine Glo.alloc ?_ _))))).mono ?_
    rintro e w4 ⟨rfl, hb4⟩
    have hs4 : _ ≤ w4.heap.size := hb4.size
    try simp at hs4
    have o_q40 : Own (w4) (w.heap.size) 0 (.int .i64 0) := ownJ; have q40 := o_q40.1; have f_q40 := o_q40.2; have o_q41 : Own (w4) (w.heap.size) 1 (.int .i64 0) := ownJ; have q41 := o_q41.1; have f_q41 := o_q41.2
    go_wp2_with fail
    refine (A.out _).mono ?_
    rintro e w5 ⟨rfl, hb5⟩
    have hs5 : _ ≤ w5.heap.size := hb5.size
    try simp at hs5
    have o_q50 : Own (w5) (w.heap.size) 0 (.int .i64 0) := ownJ; have q50 := o_q50.1; have f_q50 := o_q50.2; have o_q51 : Own (w5) (w.heap.size) 1 (.int .i64 0) := ownJ; have q51 := o_q51.1; have f_q51 := o_q51.2
    go_wp2_with fail
    refine (Q.out _).mono ?_
    rintro e w6 ⟨rfl, hb6⟩
    have hs6 : _ ≤ w6.heap.size := hb6.size
    try simp at hs6
    have o_q60 : Own (w6) (w.heap.size) 0 (.int .i64 0) := ownJ; have q60 := o_q60.1; have f_q60 := o_q60.2; have o_q61 : Own (w6) (w.heap.size) 1 (.int .i64 0) := ownJ; have q61 := o_q61.1; have f_q61 := o_q61.2
    go_wp2_with fail
    refine (T.out _ (Glo.t (by repeat (first | (with_reducible assumption) | (with_reducible refine Glo.drew ?_) | (with_reducible refine Glo.kept ?_ (by assumption)) | (with_reducible refine Glo.alloc ?_ _))))).mono ?_
    rintro e w7 ⟨rfl, hb7⟩
    have hs7 : _ ≤ w7.heap.size := hb7.size
    try simp at hs7
    have o_q70 : Own (w7) (w.heap.size) 0 (.int .i64 0) := ownJ; have q70 := o_q70.1; have f_q70 := o_q70.2; have o_q71 : Own (w7) (w.heap.size) 1 (.int .i64 0) := ownJ; have q71 := o_q71.1; have f_q71 := o_q71.2
    go_wp2_with fail
    refine (B.out _).mono ?_
    rintro e w8 ⟨rfl, hb8⟩
    have hs8 : _ ≤ w8.heap.size := hb8.size
    try simp at hs8
    have o_q80 : Own (w8) (w.heap.size) 0 (.int .i64 0) := ownJ; have q80 := o_q80.1; have f_q80 := o_q80.2; have o_q81 : Own (w8) (w.heap.size) 1 (.int .i64 0) := ownJ; have q81 := o_q81.1; have f_q81 := o_q81.2
    go_wp2_with fail
    refine (HC.out _).mono ?_
    rintro e w9 ⟨rfl, hb9⟩
    have hs9 : _ ≤ w9.heap.size := hb9.size
    try simp at hs9
    have o_q90 : Own (w9) (w.heap.size) 0 (.int .i64 0) := ownJ; have q90 := o_q90.1; have f_q90 := o_q90.2; have o_q91 : Own (w9) (w.heap.size) 1 (.int .i64 0) := ownJ; have q91 := o_q91.1; have f_q91 := o_q91.2
    go_wp2_with fail
    refine (M.out _).mono ?_
    rintro e w10 ⟨rfl, hb10⟩
    have hs10 : _ ≤ w10.heap.size := hb10.size
    try simp at hs10
    have o_q100 : Own (w10) (w.heap.size) 0 (.int .i64 0) := ownJ; have q100 := o_q100.1; have f_q100 := o_q100.2; have o_q101 : Own (w10) (w.heap.size) 1 (.int .i64 0) := ownJ; have q101 := o_q101.1; have f_q101 := o_q101.2
    have zz10 : w.heap.size < w10.heap.size := World.block_lt_of_cell? _ _ q100; obtain ⟨zz10a, zz10b, zz10c, zz10d, zz10e, zz10f, zz10g, zz10h, zz10i⟩ := below_more zz10; have zn10 : ¬ w.heap.size = w10.heap.size := Nat.ne_of_lt zz10; have zm10 : ¬ w10.heap.size = w.heap.size := Nat.ne_of_gt zz10
    go_wp2
    exact bodyPost_ret (v := .agg #[.int .i64 (z).1, .int .i64 (z).2]) (by simp [results, Tryz.results24, go_sem, q100, q101, zz10, zn10, zm10]) rfl ⟨by rw [E.out], belB⟩
  · have hh : hasI rng n = false := by unfold hasI rng Bnd; unfold InR at h; simp; omega
    rw [hh] at HH
    have E := Lib.hid (show asnF n = whl from if_neg h)
    clear h hh hn
    go_enter Tryz.func24, Tryz.ntmps24
    have g0 := hg.1
    have g1 := hg.2.1
    have lg0 : 0 < w.heap.size := World.block_lt_of_cell? _ _ g0
    go_wp2_with fail
    refine (HH.out _).mono ?_
    rintro e w1 ⟨rfl, hb1⟩
    have hs1 : _ ≤ w1.heap.size := hb1.size
    try simp at hs1
    have o_q10 : Own (w1) (w.heap.size) 0 (.int .i64 0) := ownJ; have q10 := o_q10.1; have f_q10 := o_q10.2; have o_q11 : Own (w1) (w.heap.size) 1 (.int .i64 0) := ownJ; have q11 := o_q11.1; have f_q11 := o_q11.2
    go_wp2_with fail
    refine (Whole_any _).mono ?_
    rintro e w2 ⟨rfl, hb2⟩
    have hs2 : _ ≤ w2.heap.size := hb2.size
    try simp at hs2
    have o_q20 : Own (w2) (w.heap.size) 0 (.int .i64 0) := ownJ; obtain ⟨q20, f_q20⟩ := o_q20; have o_q21 : Own (w2) (w.heap.size) 1 (.int .i64 0) := ownJ; obtain ⟨q21, f_q21⟩ := o_q21
    go_wp2
    exact bodyPost_ret (v := .agg #[.int .i64 (-1152921504606846976), .int .i64 1152921504606846976]) (by simp [results, Tryz.results24, go_sem, q20, q21]) rfl ⟨(by first | (rw [E.out]; done) | (rw [E.out]; rfl) | (simp [E.out]; done)), belB⟩
theorem AsinI_any (x : Iv) (w : World) (hg : Glo w) : Calls Tryz.prog 27 #[.agg #[.int .i64 x.1, .int .i64 x.2]] w fun e w' =>
    e = .returned (.agg #[.int .i64 (asnI x).1, .int .i64 (asnI x).2]) ∧ Below w.heap.size w w' := by
  have M := Lib.hid (fun w => MeetI_any x rng w)
  cases o : olpI x rng
  · have E := Lib.hid (show asnI x = whl from if_neg (by rw [o]; simp))
    rw [o] at M
    clear o
    generalize metI x rng = m at *
    go_enter Tryz.func27, Tryz.ntmps27
    have g0 := hg.1
    have g1 := hg.2.1
    have lg0 : 0 < w.heap.size := World.block_lt_of_cell? _ _ g0
    go_wp2_with fail
    refine (M.out _).mono ?_
    rintro e w1 ⟨rfl, hb1⟩
    have hs1 : _ ≤ w1.heap.size := hb1.size
    try simp at hs1
    have o_q10 : Own (w1) (w.heap.size + 1) 0 (.int .i64 0) := ownJ; have q10 := o_q10.1; have f_q10 := o_q10.2; have o_q11 : Own (w1) (w.heap.size + 1) 1 (.int .i64 0) := ownJ; have q11 := o_q11.1; have f_q11 := o_q11.2
    go_wp2_with fail
    refine (Whole_any _).mono ?_
    rintro e w2 ⟨rfl, hb2⟩
    have hs2 : _ ≤ w2.heap.size := hb2.size
    try simp at hs2
    have o_q20 : Own (w2) (w.heap.size + 1) 0 (.int .i64 0) := ownJ; obtain ⟨q20, f_q20⟩ := o_q20; have o_q21 : Own (w2) (w.heap.size + 1) 1 (.int .i64 0) := ownJ; obtain ⟨q21, f_q21⟩ := o_q21
    go_wp2
    exact bodyPost_ret (v := .agg #[.int .i64 (-1152921504606846976), .int .i64 1152921504606846976]) (by simp [results, Tryz.results27, go_sem, q20, q21]) rfl ⟨(by first | (rw [E.out]; done) | (rw [E.out]; rfl) | (simp [E.out]; done)), belB⟩
  · have E := Lib.hid (show asnI x = hulI (asnF (metI x rng).1) (asnF (metI x rng).2) from if_pos o)
    obtain ⟨m0, m1⟩ := met_in o
    rw [o] at M
    have A1 := Lib.hid (fun w hg => AsinAt_any (metI x rng).1 m0 w hg)
    have A2 := Lib.hid (fun w hg => AsinAt_any (metI x rng).2 m1 w hg)
    have H := Lib.hid (fun w => HullI_any (asnF (metI x rng).1) (asnF (metI x rng).2) w)
    clear o m0 m1
    generalize asnI x = Y at *
    generalize hulI (asnF (metI x rng).1) (asnF (metI x rng).2) = z at *
    generalize asnF (metI x rng).1 = a1 at *
    generalize asnF (metI x rng).2 = a2 at *
    generalize metI x rng = c at *
    go_enter Tryz.func27, Tryz.ntmps27
    have g0 := hg.1
    have g1 := hg.2.1
    have lg0 : 0 < w.heap.size := World.block_lt_of_cell? _ _ g0
    go_wp2_with fail
    refine (M.out _).mono ?_
    rintro e w1 ⟨rfl, hb1⟩
    have hs1 : _ ≤ w1.heap.size := hb1.size
    try simp at hs1
    have o_q10 : Own (w1) (w.heap.size + 1) 0 (.int .i64 0) := ownJ; have q10 := o_q10.1; have f_q10 := o_q10.2; have o_q11 : Own (w1) (w.heap.size + 1) 1 (.int .i64 0) := ownJ; have q11 := o_q11.1; have f_q11 := o_q11.2
    have zz2 : w.heap.size + 1 < w1.heap.size := World.block_lt_of_cell? _ _ q10; obtain ⟨zz2a, zz2b, zz2c, zz2d, zz2e, zz2f, zz2g, zz2h, zz2i⟩ := below_more zz2; have zn2 : ¬ w.heap.size + 1 = w1.heap.size := Nat.ne_of_lt zz2; have zm2 : ¬ w1.heap.size = w.heap.size + 1 := Nat.ne_of_gt zz2
    go_wp2_with fail
    obtain ⟨g0, g1, g2, g3⟩ : Glo w1 := (by repeat (first | (with_reducible assumption) | (with_reducible refine Glo.drew ?_) | (with_reducible refine Glo.kept ?_ (by assumption)) | (with_reducible refine Glo.alloc ?_ _)))
    have l0 : 0 < w1.heap.size := World.block_lt_of_cell? _ _ g0
    have l1 : 1 < w1.heap.size := World.block_lt_of_cell? _ _ g2
    have z0 := pslot_of (w := (w1.alloc (.cells #[.int .i64 c.1, .int .i64 c.2] 26))) (a := ⟨w.heap.size + 1, 0, none⟩) (v := .int .i64 0) (own_alloc o_q10).1 (own_alloc o_q10).2
    have z1 := pslot_of (w := (w1.alloc (.cells #[.int .i64 c.1, .int .i64 c.2] 26))) (a := ⟨w.heap.size + 1, 1, none⟩) (v := .int .i64 0) (own_alloc o_q11).1 (own_alloc o_q11).2
    obtain ⟨hlt2, hlt3, hlt4, hlt5, hlt6, hlt7, hlt8, hlt9, hlt10, hlt11⟩ := below_add; go_region_held3 (fun w' => w'.cell? ⟨w1.heap.size, 0, none⟩ = some (.int .i64 c.1) ∧ w'.cell? ⟨w1.heap.size, 1, none⟩ = some (.int .i64 c.2) ∧ w'.cell? ⟨0, 0, none⟩ = some (.int .i64 (-4294967296)) ∧ w'.cell? ⟨0, 1, none⟩ = some (.int .i64 4294967296) ∧ w'.cell? ⟨1, 0, none⟩ = some (.int .i64 (-1)) ∧ w'.cell? ⟨1, 1, none⟩ = some (.int .i64 1) ∧ (w'.cell? ⟨w.heap.size + 1, 0, none⟩ = some (peek w' ⟨w.heap.size + 1, 0, none⟩) ∧ w'.frozen? ⟨w.heap.size + 1, 0, none⟩ = false) ∧ (w'.cell? ⟨w.heap.size + 1, 1, none⟩ = some (peek w' ⟨w.heap.size + 1, 1, none⟩) ∧ w'.frozen? ⟨w.heap.size + 1, 1, none⟩ = false)) (first | (with_reducible exact ((And.imp (cell_kept (by assumption)) (And.imp (cell_kept (by assumption)) (And.imp (cell_kept (by assumption)) (And.imp (cell_kept (by assumption)) (And.imp (cell_kept (by assumption)) (And.imp (cell_kept (by assumption)) (And.imp (pslot_kept (by assumption)) (pslot_kept (by assumption))))))))) (by assumption))) | (with_reducible exact ((And.imp (cell_alloc) (And.imp (cell_alloc) (And.imp (cell_alloc) (And.imp (cell_alloc) (And.imp (cell_alloc) (And.imp (cell_alloc) (And.imp (pslot_alloc) (pslot_alloc)))))))) (by assumption))) | (with_reducible exact ((And.imp (fun h => cell_far (by first | (simp; done) | (simp; omega) | (dsimp only; omega)) (cell_far (by first | (simp; done) | (simp; omega) | (dsimp only; omega)) h)) (And.imp (fun h => cell_far (by first | (simp; done) | (simp; omega) | (dsimp only; omega)) (cell_far (by first | (simp; done) | (simp; omega) | (dsimp only; omega)) h)) (And.imp (fun h => cell_far (by first | (simp; done) | (simp; omega) | (dsimp only; omega)) (cell_far (by first | (simp; done) | (simp; omega) | (dsimp only; omega)) h)) (And.imp (fun h => cell_far (by first | (simp; done) | (simp; omega) | (dsimp only; omega)) (cell_far (by first | (simp; done) | (simp; omega) | (dsimp only; omega)) h)) (And.imp (fun h => cell_far (by first | (simp; done) | (simp; omega) | (dsimp only; omega)) (cell_far (by first | (simp; done) | (simp; omega) | (dsimp only; omega)) h)) (And.imp (fun h => cell_far (by first | (simp; done) | (simp; omega) | (dsimp only; omega)) (cell_far (by first | (simp; done) | (simp; omega) | (dsimp only; omega)) h)) (And.imp (fun h => pslot_set (pslot_set h)) (fun h => pslot_set (pslot_set h))))))))) (by assumption))) | (refine ⟨?_, ?_, ?_, ?_, ?_, ?_, ?_, ?_⟩ <;> repeat (first | (with_reducible assumption) | (with_reducible refine cell_far (by first | (simp; done) | (simp; omega) | (dsimp only; omega)) ?_) | (with_reducible refine cell_drew ?_) | (with_reducible refine cell_drewN ?_) | (with_reducible refine cell_kept (by assumption) ?_) | (with_reducible exact pslot_of (by assumption) (by assumption)) | (with_reducible refine pslot_drew ?_) | (with_reducible refine pslot_kept (by assumption) ?_) | (with_reducible refine pslot_alloc ?_) | (simp [go_sem]; done) | (with_reducible refine cell_alloc ?_))) | (simp [go_sem, *]; done)) (first | (go_at_call 24; with_reducible refine (A1.out _ (Glo.mk (by simp [go_sem, *]) (by simp [go_sem, *]) (by simp [go_sem, *]) (by simp [go_sem, *]))).mono ?_; rintro e w1 ⟨rfl, hb⟩; have hs : _ ≤ w1.heap.size := hb.size; (try simp at hs); obtain ⟨hc, hf, hl, hn, hm⟩ := behind hb) | (go_at_call 24; with_reducible refine (A2.out _ (Glo.mk (by simp [go_sem, *]) (by simp [go_sem, *]) (by simp [go_sem, *]) (by simp [go_sem, *]))).mono ?_; rintro e w1 ⟨rfl, hb⟩; have hs : _ ≤ w1.heap.size := hb.size; (try simp at hs); obtain ⟨hc, hf, hl, hn, hm⟩ := behind hb) | (go_at_call 81; refine (H.out _).mono ?_; rintro e w1 ⟨rfl, hb⟩; have hs : _ ≤ w1.heap.size := hb.size; (try simp at hs); obtain ⟨hc, hf, hl, hn, hm⟩ := behind hb))
    all_goals (go_wp2; have o_j0 : Own (w1) (w.heap.size + 1) 0 (.int .i64 0) := ownJ; obtain ⟨j0, f_j0⟩ := o_j0; have o_j1 : Own (w1) (w.heap.size + 1) 1 (.int .i64 0) := ownJ; obtain ⟨j1, f_j1⟩ := o_j1; exact bodyPost_ret (v := .agg #[.int .i64 (z).1, .int .i64 (z).2]) (by simp [results, Tryz.results27, go_sem, j0, j1]) rfl ⟨by rw [E.out], belB⟩)
theorem AcosI_any (x : Iv) (w : World) (hg : Glo w) : Calls Tryz.prog 29 #[.agg #[.int .i64 x.1, .int .i64 x.2]] w fun e w' =>
    e = .returned (.agg #[.int .i64 (acsI x).1, .int .i64 (acsI x).2]) ∧ Below w.heap.size w w' := by
  have T := Lib.hid (fun w => TurnI_any 1 w)
  have A := Lib.hid (fun w hg => AsinI_any x w hg)
  have S := Lib.hid (fun w => SubI_any (turI 1) (asnI x) w)
  have E := Lib.hid (show acsI x = subI (turI 1) (asnI x) from rfl)
  generalize acsI x = Y at *
  generalize subI (turI 1) (asnI x) = z at *
  generalize asnI x = a at *
  generalize turI 1 = t at *
  obtain ⟨g0, g1, g2, g3⟩ : Glo w := hg
  have l0 : 0 < w.heap.size := World.block_lt_of_cell? _ _ g0
  have l1 : 1 < w.heap.size := World.block_lt_of_cell? _ _ g2
  go_enter Tryz.func29, Tryz.ntmps29
  go_wp2_with fail
  have z0 := pslot_of (w := ((w.alloc (.cells #[.int .i64 x.1, .int .i64 x.2] 26)).alloc (.cells #[.int .i64 0, .int .i64 0] 26))) (a := ⟨w.heap.size + 1, 0, none⟩) (v := .int .i64 0) (by simp [go_sem]) (by simp [go_sem])
  have z1 := pslot_of (w := ((w.alloc (.cells #[.int .i64 x.1, .int .i64 x.2] 26)).alloc (.cells #[.int .i64 0, .int .i64 0] 26))) (a := ⟨w.heap.size + 1, 1, none⟩) (v := .int .i64 0) (by simp [go_sem]) (by simp [go_sem])
  obtain ⟨hlt2, hlt3, hlt4, hlt5, hlt6, hlt7, hlt8, hlt9, hlt10, hlt11⟩ := below_add; go_region_held3 (fun w' => w'.cell? ⟨w.heap.size, 0, none⟩ = some (.int .i64 x.1) ∧ w'.cell? ⟨w.heap.size, 1, none⟩ = some (.int .i64 x.2) ∧ w'.cell? ⟨0, 0, none⟩ = some (.int .i64 (-4294967296)) ∧ w'.cell? ⟨0, 1, none⟩ = some (.int .i64 4294967296) ∧ w'.cell? ⟨1, 0, none⟩ = some (.int .i64 (-1)) ∧ w'.cell? ⟨1, 1, none⟩ = some (.int .i64 1) ∧ (w'.cell? ⟨w.heap.size + 1, 0, none⟩ = some (peek w' ⟨w.heap.size + 1, 0, none⟩) ∧ w'.frozen? ⟨w.heap.size + 1, 0, none⟩ = false) ∧ (w'.cell? ⟨w.heap.size + 1, 1, none⟩ = some (peek w' ⟨w.heap.size + 1, 1, none⟩) ∧ w'.frozen? ⟨w.heap.size + 1, 1, none⟩ = false)) (first | (with_reducible exact ((And.imp (cell_kept (by assumption)) (And.imp (cell_kept (by assumption)) (And.imp (cell_kept (by assumption)) (And.imp (cell_kept (by assumption)) (And.imp (cell_kept (by assumption)) (And.imp (cell_kept (by assumption)) (And.imp (pslot_kept (by assumption)) (pslot_kept (by assumption))))))))) (by assumption))) | (with_reducible exact ((And.imp (cell_alloc) (And.imp (cell_alloc) (And.imp (cell_alloc) (And.imp (cell_alloc) (And.imp (cell_alloc) (And.imp (cell_alloc) (And.imp (pslot_alloc) (pslot_alloc)))))))) (by assumption))) | (with_reducible exact ((And.imp (fun h => cell_far (by first | (simp; done) | (simp; omega) | (dsimp only; omega)) (cell_far (by first | (simp; done) | (simp; omega) | (dsimp only; omega)) h)) (And.imp (fun h => cell_far (by first | (simp; done) | (simp; omega) | (dsimp only; omega)) (cell_far (by first | (simp; done) | (simp; omega) | (dsimp only; omega)) h)) (And.imp (fun h => cell_far (by first | (simp; done) | (simp; omega) | (dsimp only; omega)) (cell_far (by first | (simp; done) | (simp; omega) | (dsimp only; omega)) h)) (And.imp (fun h => cell_far (by first | (simp; done) | (simp; omega) | (dsimp only; omega)) (cell_far (by first | (simp; done) | (simp; omega) | (dsimp only; omega)) h)) (And.imp (fun h => cell_far (by first | (simp; done) | (simp; omega) | (dsimp only; omega)) (cell_far (by first | (simp; done) | (simp; omega) | (dsimp only; omega)) h)) (And.imp (fun h => cell_far (by first | (simp; done) | (simp; omega) | (dsimp only; omega)) (cell_far (by first | (simp; done) | (simp; omega) | (dsimp only; omega)) h)) (And.imp (fun h => pslot_set (pslot_set h)) (fun h => pslot_set (pslot_set h))))))))) (by assumption))) | (refine ⟨?_, ?_, ?_, ?_, ?_, ?_, ?_, ?_⟩ <;> repeat (first | (with_reducible assumption) | (with_reducible refine cell_far (by first | (simp; done) | (simp; omega) | (dsimp only; omega)) ?_) | (with_reducible refine cell_drew ?_) | (with_reducible refine cell_drewN ?_) | (with_reducible refine cell_kept (by assumption) ?_) | (with_reducible exact pslot_of (by assumption) (by assumption)) | (with_reducible refine pslot_drew ?_) | (with_reducible refine pslot_kept (by assumption) ?_) | (with_reducible refine pslot_alloc ?_) | (simp [go_sem]; done) | (with_reducible refine cell_alloc ?_))) | (simp [go_sem, *]; done)) (first | (go_at_call 85; refine (T.out _).mono ?_; rintro e w1 ⟨rfl, hb⟩; have hs : _ ≤ w1.heap.size := hb.size; (try simp at hs); obtain ⟨hc, hf, hl, hn, hm⟩ := behind hb) | (go_at_call 27; refine (A.out _ (Glo.mk (by simp [go_sem, *]) (by simp [go_sem, *]) (by simp [go_sem, *]) (by simp [go_sem, *]))).mono ?_; rintro e w1 ⟨rfl, hb⟩; have hs : _ ≤ w1.heap.size := hb.size; (try simp at hs); obtain ⟨hc, hf, hl, hn, hm⟩ := behind hb) | (go_at_call 84; refine (S.out _).mono ?_; rintro e w1 ⟨rfl, hb⟩; have hs : _ ≤ w1.heap.size := hb.size; (try simp at hs); obtain ⟨hc, hf, hl, hn, hm⟩ := behind hb))
  all_goals (go_wp2; have o_j0 : Own (w1) (w.heap.size + 1) 0 (.int .i64 0) := ownJ; obtain ⟨j0, f_j0⟩ := o_j0; have o_j1 : Own (w1) (w.heap.size + 1) 1 (.int .i64 0) := ownJ; obtain ⟨j1, f_j1⟩ := o_j1; exact bodyPost_ret (v := .agg #[.int .i64 (z).1, .int .i64 (z).2]) (by simp [results, Tryz.results29, go_sem, j0, j1]) rfl ⟨by rw [E.out], belB⟩)
end Go.Proofs.YtmikjgbojknlnaaGreatDoor
