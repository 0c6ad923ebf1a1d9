/- Contracts of the sine of a number in the program, by its quarter turn. Conditions: numbers are int64; the program's two intervals are laid. -/
import Derived.Test.YtnhpacaidcjaoaaGreatDoorSeF
import Derived.Deep.RegionHeld3
import Derived.Outline
namespace Go.Proofs.YtnhpacaidcjaoaaGreatDoor
open Go.ChangeShapes Go.WideShapes Go.ChangeAt Go.RowKit
set_option linter.unusedVariables false
set_option maxRecDepth 100000
set_option linter.unusedSimpArgs false
set_option maxHeartbeats 1000000
theorem sineAt_no (n q : Int) (a : ¬ Ang n) (w : World) (hg : Glo w) : Calls Tryz.prog 84 #[.int .i64 n, .int .i64 q] w fun e w' =>
    e = .returned (.agg #[.int .i64 (sinA n q).1, .int .i64 (sinA n q).2]) ∧ Below w.heap.size w w' := by
  obtain ⟨g0, g1, g2, g3⟩ := hg
  have C := Lib.hid (fun w => isAngle_any n w)
  have B := Lib.hid (show ang n = false from decide_eq_false a)
  have E := Lib.hid (show sinA n q = rng from if_neg a)
  clear a
  go_enter Tryz.func84, Tryz.ntmps84
  go_wp2_with fail
  refine (C.out _).mono ?_
  rintro e w1 ⟨rfl, hb1⟩
  have hs1 : _ ≤ w1.heap.size := hb1.size
  try simp at hs1
  rw [B.out]
  have o_r10 : Own (w1) (w.heap.size) 0 (.int .i64 0) := (by repeat (first | (with_reducible assumption) | (with_reducible refine own_drew ?_) | (with_reducible refine own_drewN ?_) | (with_reducible refine own_kept (by assumption) ?_) | (refine ⟨?_, ?_⟩ <;> simp [go_sem]; done) | (with_reducible refine own_alloc ?_))); have r10 := o_r10.1; have f_r10 := o_r10.2; have o_r11 : Own (w1) (w.heap.size) 1 (.int .i64 0) := (by repeat (first | (with_reducible assumption) | (with_reducible refine own_drew ?_) | (with_reducible refine own_drewN ?_) | (with_reducible refine own_kept (by assumption) ?_) | (refine ⟨?_, ?_⟩ <;> simp [go_sem]; done) | (with_reducible refine own_alloc ?_))); have r11 := o_r11.1; have f_r11 := o_r11.2
  have g1a : w1.cell? ⟨0, 0, none⟩ = some (.int .i64 (-4294967296)) := (by repeat (first | (with_reducible assumption) | (with_reducible refine cell_far (by first | (simp; done) | (simp; omega)) ?_) | (with_reducible refine cell_drew ?_) | (with_reducible refine cell_drewN ?_) | (with_reducible refine cell_kept (by assumption) ?_) | (simp [go_sem]; done) | (with_reducible refine cell_alloc ?_)))
  have g1b : w1.cell? ⟨0, 1, none⟩ = some (.int .i64 4294967296) := (by repeat (first | (with_reducible assumption) | (with_reducible refine cell_far (by first | (simp; done) | (simp; omega)) ?_) | (with_reducible refine cell_drew ?_) | (with_reducible refine cell_drewN ?_) | (with_reducible refine cell_kept (by assumption) ?_) | (simp [go_sem]; done) | (with_reducible refine cell_alloc ?_)))
  have g1c : w1.cell? ⟨1, 0, none⟩ = some (.int .i64 (-1)) := (by repeat (first | (with_reducible assumption) | (with_reducible refine cell_far (by first | (simp; done) | (simp; omega)) ?_) | (with_reducible refine cell_drew ?_) | (with_reducible refine cell_drewN ?_) | (with_reducible refine cell_kept (by assumption) ?_) | (simp [go_sem]; done) | (with_reducible refine cell_alloc ?_)))
  have g1d : w1.cell? ⟨1, 1, none⟩ = some (.int .i64 1) := (by repeat (first | (with_reducible assumption) | (with_reducible refine cell_far (by first | (simp; done) | (simp; omega)) ?_) | (with_reducible refine cell_drew ?_) | (with_reducible refine cell_drewN ?_) | (with_reducible refine cell_kept (by assumption) ?_) | (simp [go_sem]; done) | (with_reducible refine cell_alloc ?_)))
  go_wp2
  exact bodyPost_ret (v := .agg #[.int .i64 (-4294967296), .int .i64 4294967296]) (by simp [results, Tryz.results84, go_sem, r10, r11]) rfl ⟨(by first | (rw [E.out]; done) | (rw [E.out]; rfl) | (simp [E.out]; done)), (by repeat (first | exact Below.refl _ _ | refine Below.drew ?_ | refine below_dn ?_ _ | refine Below.setCell ?_ (by first | omega | (simp; done) | (simp; omega)) _ | refine Below.alloc ?_ (by first | omega | (simp; done) | (simp; omega)) _ | refine Below.trans ?_ (Below.mono (by assumption) (by first | omega | (simp; done) | (simp; omega)))))⟩
set_option maxHeartbeats 4000000 in
theorem sineAt_0 (n q : Int) (hn : In64 n) (q0 : 0 ≤ q) (q1 : q ≤ 1) (a : Ang n) (hm : (qrt n + q) % 4 = 0) (w : World) (hg : Glo w) : Calls Tryz.prog 84 #[.int .i64 n, .int .i64 q] w fun e w' =>
    e = .returned (.agg #[.int .i64 (sinA n q).1, .int .i64 (sinA n q).2]) ∧ Below w.heap.size w w' := by
  have hg' := hg
  obtain ⟨g0, g1, g2, g3⟩ := hg'
  clear hg
  have C := Lib.hid (fun w => isAngle_any n w)
  have B := Lib.hid (show ang n = true from decide_eq_true a)
  have kq := qrt_in n
  have E := Lib.hid (show sinA n q = metI (sinS (resA n)) rng by unfold sinA; rw [if_pos a, hm]; simp [quaS])
  have K := Lib.hid (fun w => QuarterOf_any n hn w)
  have T := Lib.hid (fun w => TurnI_any (qrt n) w)
  have S := Lib.hid (fun w => SubI_any (n, n) (turI (qrt n)) w)
  have hr := Lib.hid (show Ok (resA n) from res_ok (sub_res _ _))
  have hR := Lib.hid (show subI (n, n) (turI (qrt n)) = resA n from rfl)
  rw [hR.out] at S
  have A := Lib.hid (fun f0 f1 f2 f3 w => atQuarter0 f0 f1 f2 f3 (qrt n + q) hm w)
  have M := Lib.hid (fun z w => MeetI_any z rng w)
  clear a hR hm hn
  generalize resA n = r at *
  generalize turI (qrt n) = t at *
  obtain ⟨k0, k1⟩ := kq
  generalize qrt n = k at *
  generalize sinA n q = Y at *
  go_enter Tryz.func84, Tryz.ntmps84
  go_wp2_with fail
  refine (C.out _).mono ?_
  rintro e w1 ⟨rfl, hb1⟩
  have hs1 : _ ≤ w1.heap.size := hb1.size
  try simp at hs1
  rw [B.out]
  go_wp2_with fail
  refine (K.out _).mono ?_
  rintro e w2 ⟨rfl, hb2⟩
  have hs2 : _ ≤ w2.heap.size := hb2.size
  try simp at hs2
  go_wp2_with fail
  refine (single_any n _).mono ?_
  rintro e w8 ⟨rfl, hb8⟩
  have hs8 : _ ≤ w8.heap.size := hb8.size
  try simp at hs8
  go_wp2_with fail
  refine (T.out _).mono ?_
  rintro e w3 ⟨rfl, hb3⟩
  have hs3 : _ ≤ w3.heap.size := hb3.size
  try simp at hs3
  go_wp2_with fail
  refine (S.out _).mono ?_
  rintro e w4 ⟨rfl, hb4⟩
  have hs4 : _ ≤ w4.heap.size := hb4.size
  try simp at hs4
  have o_q40 : Own (w4) (w.heap.size) 0 (.int .i64 0) := (by repeat (first | (with_reducible assumption) | (with_reducible refine own_drew ?_) | (with_reducible refine own_drewN ?_) | (with_reducible refine own_kept (by assumption) ?_) | (refine ⟨?_, ?_⟩ <;> simp [go_sem]; done) | (with_reducible refine own_alloc ?_))); have q40 := o_q40.1; have f_q40 := o_q40.2; have o_q41 : Own (w4) (w.heap.size) 1 (.int .i64 0) := (by repeat (first | (with_reducible assumption) | (with_reducible refine own_drew ?_) | (with_reducible refine own_drewN ?_) | (with_reducible refine own_kept (by assumption) ?_) | (refine ⟨?_, ?_⟩ <;> simp [go_sem]; done) | (with_reducible refine own_alloc ?_))); have q41 := o_q41.1; have f_q41 := o_q41.2
  have zz4 : w.heap.size < w4.heap.size := World.block_lt_of_cell? _ _ q40; obtain ⟨zz4a, zz4b, zz4c, zz4d, zz4e, zz4f, zz4g, zz4h, zz4i⟩ := below_more zz4; have zn4 : ¬ w.heap.size = w4.heap.size := Nat.ne_of_lt zz4; have zm4 : ¬ w4.heap.size = w.heap.size := Nat.ne_of_gt zz4
  have g4a : w4.cell? ⟨0, 0, none⟩ = some (.int .i64 (-4294967296)) := (by repeat (first | (with_reducible assumption) | (with_reducible refine cell_far (by first | (simp; done) | (simp; omega)) ?_) | (with_reducible refine cell_drew ?_) | (with_reducible refine cell_drewN ?_) | (with_reducible refine cell_kept (by assumption) ?_) | (simp [go_sem]; done) | (with_reducible refine cell_alloc ?_)))
  have g4b : w4.cell? ⟨0, 1, none⟩ = some (.int .i64 4294967296) := (by repeat (first | (with_reducible assumption) | (with_reducible refine cell_far (by first | (simp; done) | (simp; omega)) ?_) | (with_reducible refine cell_drew ?_) | (with_reducible refine cell_drewN ?_) | (with_reducible refine cell_kept (by assumption) ?_) | (simp [go_sem]; done) | (with_reducible refine cell_alloc ?_)))
  have g4c : w4.cell? ⟨1, 0, none⟩ = some (.int .i64 (-1)) := (by repeat (first | (with_reducible assumption) | (with_reducible refine cell_far (by first | (simp; done) | (simp; omega)) ?_) | (with_reducible refine cell_drew ?_) | (with_reducible refine cell_drewN ?_) | (with_reducible refine cell_kept (by assumption) ?_) | (simp [go_sem]; done) | (with_reducible refine cell_alloc ?_)))
  have g4d : w4.cell? ⟨1, 1, none⟩ = some (.int .i64 1) := (by repeat (first | (with_reducible assumption) | (with_reducible refine cell_far (by first | (simp; done) | (simp; omega)) ?_) | (with_reducible refine cell_drew ?_) | (with_reducible refine cell_drewN ?_) | (with_reducible refine cell_kept (by assumption) ?_) | (simp [go_sem]; done) | (with_reducible refine cell_alloc ?_)))
  go_wp2_with fail
  refine (opposite_Sin _).mono ?_
  rintro e w5 ⟨rfl, hw5⟩
  subst hw5
  go_wp2_with fail
  refine (opposite_Cos _).mono ?_
  rintro e w6 ⟨rfl, hw6⟩
  subst hw6
  go_wp2_with fail
  refine (A.out _ _ _ _ _).mono ?_
  rintro e w7 ⟨rfl, hb7⟩
  have hs7 : _ ≤ w7.heap.size := hb7.size
  try simp at hs7
  have o_q70 : Own (w7) (w.heap.size) 0 (.int .i64 0) := (by repeat (first | (with_reducible assumption) | (with_reducible refine own_drew ?_) | (with_reducible refine own_drewN ?_) | (with_reducible refine own_kept (by assumption) ?_) | (refine ⟨?_, ?_⟩ <;> simp [go_sem]; done) | (with_reducible refine own_alloc ?_))); have q70 := o_q70.1; have f_q70 := o_q70.2; have o_q71 : Own (w7) (w.heap.size) 1 (.int .i64 0) := (by repeat (first | (with_reducible assumption) | (with_reducible refine own_drew ?_) | (with_reducible refine own_drewN ?_) | (with_reducible refine own_kept (by assumption) ?_) | (refine ⟨?_, ?_⟩ <;> simp [go_sem]; done) | (with_reducible refine own_alloc ?_))); have q71 := o_q71.1; have f_q71 := o_q71.2
  have o_x70 : Own (w7) (w4.heap.size) 0 (.int .i64 r.1) := (by repeat (first | (with_reducible assumption) | (with_reducible refine own_drew ?_) | (with_reducible refine own_drewN ?_) | (with_reducible refine own_kept (by assumption) ?_) | (refine ⟨?_, ?_⟩ <;> simp [go_sem]; done) | (with_reducible refine own_alloc ?_))); have x70 := o_x70.1; have f_x70 := o_x70.2; have o_x71 : Own (w7) (w4.heap.size) 1 (.int .i64 r.2) := (by repeat (first | (with_reducible assumption) | (with_reducible refine own_drew ?_) | (with_reducible refine own_drewN ?_) | (with_reducible refine own_kept (by assumption) ?_) | (refine ⟨?_, ?_⟩ <;> simp [go_sem]; done) | (with_reducible refine own_alloc ?_))); have x71 := o_x71.1; have f_x71 := o_x71.2
  have g7a : w7.cell? ⟨0, 0, none⟩ = some (.int .i64 (-4294967296)) := (by repeat (first | (with_reducible assumption) | (with_reducible refine cell_far (by first | (simp; done) | (simp; omega)) ?_) | (with_reducible refine cell_drew ?_) | (with_reducible refine cell_drewN ?_) | (with_reducible refine cell_kept (by assumption) ?_) | (simp [go_sem]; done) | (with_reducible refine cell_alloc ?_)))
  have g7b : w7.cell? ⟨0, 1, none⟩ = some (.int .i64 4294967296) := (by repeat (first | (with_reducible assumption) | (with_reducible refine cell_far (by first | (simp; done) | (simp; omega)) ?_) | (with_reducible refine cell_drew ?_) | (with_reducible refine cell_drewN ?_) | (with_reducible refine cell_kept (by assumption) ?_) | (simp [go_sem]; done) | (with_reducible refine cell_alloc ?_)))
  have g7c : w7.cell? ⟨1, 0, none⟩ = some (.int .i64 (-1)) := (by repeat (first | (with_reducible assumption) | (with_reducible refine cell_far (by first | (simp; done) | (simp; omega)) ?_) | (with_reducible refine cell_drew ?_) | (with_reducible refine cell_drewN ?_) | (with_reducible refine cell_kept (by assumption) ?_) | (simp [go_sem]; done) | (with_reducible refine cell_alloc ?_)))
  have g7d : w7.cell? ⟨1, 1, none⟩ = some (.int .i64 1) := (by repeat (first | (with_reducible assumption) | (with_reducible refine cell_far (by first | (simp; done) | (simp; omega)) ?_) | (with_reducible refine cell_drew ?_) | (with_reducible refine cell_drewN ?_) | (with_reducible refine cell_kept (by assumption) ?_) | (simp [go_sem]; done) | (with_reducible refine cell_alloc ?_)))

  have l70 : 0 < w7.heap.size := World.block_lt_of_cell? _ _ g7a
  have l71 : 1 < w7.heap.size := World.block_lt_of_cell? _ _ g7c
  have zz7 : w4.heap.size < w7.heap.size := World.block_lt_of_cell? _ _ x70; obtain ⟨zz7a, zz7b, zz7c, zz7d, zz7e, zz7f, zz7g, zz7h, zz7i⟩ := below_more zz7; have zn7 : ¬ w4.heap.size = w7.heap.size := Nat.ne_of_lt zz7; have zm7 : ¬ w7.heap.size = w4.heap.size := Nat.ne_of_gt zz7
  go_wp2_with fail
  obtain ⟨hlt2, hlt3, hlt4, hlt5, hlt6, hlt7, hlt8, hlt9, hlt10, hlt11⟩ := below_add; go_region_held3 (fun w' => w'.cell? ⟨w4.heap.size, 0, none⟩ = some (.int .i64 r.1) ∧ w'.cell? ⟨w4.heap.size, 1, none⟩ = some (.int .i64 r.2) ∧ w'.cell? ⟨0, 0, none⟩ = some (.int .i64 (-4294967296)) ∧ w'.cell? ⟨0, 1, none⟩ = some (.int .i64 4294967296) ∧ w'.cell? ⟨1, 0, none⟩ = some (.int .i64 (-1)) ∧ w'.cell? ⟨1, 1, none⟩ = some (.int .i64 1)) (first | (with_reducible exact ((And.imp (cell_kept (by assumption)) (And.imp (cell_kept (by assumption)) (And.imp (cell_kept (by assumption)) (And.imp (cell_kept (by assumption)) (And.imp (cell_kept (by assumption)) (cell_kept (by assumption))))))) (by assumption))) | (with_reducible exact ((And.imp (cell_alloc) (And.imp (cell_alloc) (And.imp (cell_alloc) (And.imp (cell_alloc) (And.imp (cell_alloc) (cell_alloc)))))) (by assumption))) | (with_reducible exact ((And.imp (fun h => cell_far (by first | (simp; done) | (simp; omega) | (dsimp only; omega)) (cell_far (by first | (simp; done) | (simp; omega) | (dsimp only; omega)) h)) (And.imp (fun h => cell_far (by first | (simp; done) | (simp; omega) | (dsimp only; omega)) (cell_far (by first | (simp; done) | (simp; omega) | (dsimp only; omega)) h)) (And.imp (fun h => cell_far (by first | (simp; done) | (simp; omega) | (dsimp only; omega)) (cell_far (by first | (simp; done) | (simp; omega) | (dsimp only; omega)) h)) (And.imp (fun h => cell_far (by first | (simp; done) | (simp; omega) | (dsimp only; omega)) (cell_far (by first | (simp; done) | (simp; omega) | (dsimp only; omega)) h)) (And.imp (fun h => cell_far (by first | (simp; done) | (simp; omega) | (dsimp only; omega)) (cell_far (by first | (simp; done) | (simp; omega) | (dsimp only; omega)) h)) (fun h => cell_far (by first | (simp; done) | (simp; omega) | (dsimp only; omega)) (cell_far (by first | (simp; done) | (simp; omega) | (dsimp only; omega)) h))))))) (by assumption))) | (refine ⟨?_, ?_, ?_, ?_, ?_, ?_⟩ <;> repeat (first | (with_reducible assumption) | (with_reducible refine cell_far (by first | (simp; done) | (simp; omega) | (dsimp only; omega)) ?_) | (with_reducible refine cell_drew ?_) | (with_reducible refine cell_drewN ?_) | (with_reducible refine cell_kept (by assumption) ?_) | (simp [go_sem]; done) | (with_reducible refine cell_alloc ?_))) | (simp [go_sem, *]; done)) (first | (go_at_call 126; refine (SinSeries_any r hr.out _ (by refine ⟨?_, ?_, ?_, ?_⟩ <;> simp [go_sem, *])).mono ?_; rintro e w1 ⟨rfl, hb⟩; have hs : _ ≤ w1.heap.size := hb.size; (try simp at hs); obtain ⟨hc, hf, hl, hn, hm⟩ := behind hb) | (go_at_call 70; refine (M.out _ _).mono ?_; rintro e w1 ⟨rfl, hb⟩; have hs : _ ≤ w1.heap.size := hb.size; (try simp at hs); obtain ⟨hc, hf, hl, hn, hm⟩ := behind hb))
  rotate_right
  · (have o_j0 : Own (w1) (w.heap.size) 0 (.int .i64 0) := (by repeat (first | (with_reducible assumption) | (with_reducible refine own_drew ?_) | (with_reducible refine own_drewN ?_) | (with_reducible refine own_kept (by assumption) ?_) | (refine ⟨?_, ?_⟩ <;> simp [go_sem]; done) | (with_reducible refine own_alloc ?_))); have j0 := o_j0.1; have f_j0 := o_j0.2; have o_j1 : Own (w1) (w.heap.size) 1 (.int .i64 0) := (by repeat (first | (with_reducible assumption) | (with_reducible refine own_drew ?_) | (with_reducible refine own_drewN ?_) | (with_reducible refine own_kept (by assumption) ?_) | (refine ⟨?_, ?_⟩ <;> simp [go_sem]; done) | (with_reducible refine own_alloc ?_))); have j1 := o_j1.1; have f_j1 := o_j1.2; have lz := World.block_lt_of_cell? _ _ j0; have o_nb0 : Own (w1) (w7.heap.size) 0 (.int .i64 0) := (by repeat (first | (with_reducible assumption) | (with_reducible refine own_drew ?_) | (with_reducible refine own_drewN ?_) | (with_reducible refine own_kept (by assumption) ?_) | (refine ⟨?_, ?_⟩ <;> simp [go_sem]; done) | (with_reducible refine own_alloc ?_))); have nb0 := o_nb0.1; have f_nb0 := o_nb0.2; have o_nb1 : Own (w1) (w7.heap.size) 1 (.int .i64 0) := (by repeat (first | (with_reducible assumption) | (with_reducible refine own_drew ?_) | (with_reducible refine own_drewN ?_) | (with_reducible refine own_kept (by assumption) ?_) | (refine ⟨?_, ?_⟩ <;> simp [go_sem]; done) | (with_reducible refine own_alloc ?_))); have nb1 := o_nb1.1; have f_nb1 := o_nb1.2; go_wp2; exact bodyPost_ret (v := .agg #[.int .i64 (metI (sinS (r)) rng).1, .int .i64 (metI (sinS (r)) rng).2]) (by simp [results, Tryz.results84, go_sem, j0, j1, lz]) rfl ⟨by rw [E.out], (by repeat (first | exact Below.refl _ _ | refine Below.drew ?_ | refine below_dn ?_ _ | refine Below.setCell ?_ (by first | omega | (simp; done) | (simp; omega)) _ | refine Below.alloc ?_ (by first | omega | (simp; done) | (simp; omega)) _ | refine Below.trans ?_ (Below.mono (by assumption) (by first | omega | (simp; done) | (simp; omega)))))⟩)
  all_goals (have o_j0 : Own (w1) (w.heap.size) 0 (.int .i64 0) := (by repeat (first | (with_reducible assumption) | (with_reducible refine own_drew ?_) | (with_reducible refine own_drewN ?_) | (with_reducible refine own_kept (by assumption) ?_) | (refine ⟨?_, ?_⟩ <;> simp [go_sem]; done) | (with_reducible refine own_alloc ?_))); have j0 := o_j0.1; have f_j0 := o_j0.2; have o_j1 : Own (w1) (w.heap.size) 1 (.int .i64 0) := (by repeat (first | (with_reducible assumption) | (with_reducible refine own_drew ?_) | (with_reducible refine own_drewN ?_) | (with_reducible refine own_kept (by assumption) ?_) | (refine ⟨?_, ?_⟩ <;> simp [go_sem]; done) | (with_reducible refine own_alloc ?_))); have j1 := o_j1.1; have f_j1 := o_j1.2; have lz := World.block_lt_of_cell? _ _ j0; go_wp2; exact bodyPost_ret (v := .agg #[.int .i64 (metI (sinS (r)) rng).1, .int .i64 (metI (sinS (r)) rng).2]) (by simp [results, Tryz.results84, go_sem, j0, j1, lz]) rfl ⟨by rw [E.out], (by repeat (first | exact Below.refl _ _ | refine Below.drew ?_ | refine below_dn ?_ _ | refine Below.setCell ?_ (by first | omega | (simp; done) | (simp; omega)) _ | refine Below.alloc ?_ (by first | omega | (simp; done) | (simp; omega)) _ | refine Below.trans ?_ (Below.mono (by assumption) (by first | omega | (simp; done) | (simp; omega)))))⟩)
set_option maxHeartbeats 4000000 in
theorem sineAt_1 (n q : Int) (hn : In64 n) (q0 : 0 ≤ q) (q1 : q ≤ 1) (a : Ang n) (hm : (qrt n + q) % 4 = 1) (w : World) (hg : Glo w) : Calls Tryz.prog 84 #[.int .i64 n, .int .i64 q] w fun e w' =>
    e = .returned (.agg #[.int .i64 (sinA n q).1, .int .i64 (sinA n q).2]) ∧ Below w.heap.size w w' := by
  have hg' := hg
  obtain ⟨g0, g1, g2, g3⟩ := hg'
  clear hg
  have C := Lib.hid (fun w => isAngle_any n w)
  have B := Lib.hid (show ang n = true from decide_eq_true a)
  have kq := qrt_in n
  have E := Lib.hid (show sinA n q = metI (cosS (resA n)) rng by unfold sinA; rw [if_pos a, hm]; simp [quaS])
  have K := Lib.hid (fun w => QuarterOf_any n hn w)
  have T := Lib.hid (fun w => TurnI_any (qrt n) w)
  have S := Lib.hid (fun w => SubI_any (n, n) (turI (qrt n)) w)
  have hr := Lib.hid (show Ok (resA n) from res_ok (sub_res _ _))
  have hR := Lib.hid (show subI (n, n) (turI (qrt n)) = resA n from rfl)
  rw [hR.out] at S
  have A := Lib.hid (fun f0 f1 f2 f3 w => atQuarter1 f0 f1 f2 f3 (qrt n + q) hm w)
  have M := Lib.hid (fun z w => MeetI_any z rng w)
  clear a hR hm hn
  generalize resA n = r at *
  generalize turI (qrt n) = t at *
  obtain ⟨k0, k1⟩ := kq
  generalize qrt n = k at *
  generalize sinA n q = Y at *
  go_enter Tryz.func84, Tryz.ntmps84
  go_wp2_with fail
  refine (C.out _).mono ?_
  rintro e w1 ⟨rfl, hb1⟩
  have hs1 : _ ≤ w1.heap.size := hb1.size
  try simp at hs1
  rw [B.out]
  go_wp2_with fail
  refine (K.out _).mono ?_
  rintro e w2 ⟨rfl, hb2⟩
  have hs2 : _ ≤ w2.heap.size := hb2.size
  try simp at hs2
  go_wp2_with fail
  refine (single_any n _).mono ?_
  rintro e w8 ⟨rfl, hb8⟩
  have hs8 : _ ≤ w8.heap.size := hb8.size
  try simp at hs8
  go_wp2_with fail
  refine (T.out _).mono ?_
  rintro e w3 ⟨rfl, hb3⟩
  have hs3 : _ ≤ w3.heap.size := hb3.size
  try simp at hs3
  go_wp2_with fail
  refine (S.out _).mono ?_
  rintro e w4 ⟨rfl, hb4⟩
  have hs4 : _ ≤ w4.heap.size := hb4.size
  try simp at hs4
  have o_q40 : Own (w4) (w.heap.size) 0 (.int .i64 0) := (by repeat (first | (with_reducible assumption) | (with_reducible refine own_drew ?_) | (with_reducible refine own_drewN ?_) | (with_reducible refine own_kept (by assumption) ?_) | (refine ⟨?_, ?_⟩ <;> simp [go_sem]; done) | (with_reducible refine own_alloc ?_))); have q40 := o_q40.1; have f_q40 := o_q40.2; have o_q41 : Own (w4) (w.heap.size) 1 (.int .i64 0) := (by repeat (first | (with_reducible assumption) | (with_reducible refine own_drew ?_) | (with_reducible refine own_drewN ?_) | (with_reducible refine own_kept (by assumption) ?_) | (refine ⟨?_, ?_⟩ <;> simp [go_sem]; done) | (with_reducible refine own_alloc ?_))); have q41 := o_q41.1; have f_q41 := o_q41.2
  have zz4 : w.heap.size < w4.heap.size := World.block_lt_of_cell? _ _ q40; obtain ⟨zz4a, zz4b, zz4c, zz4d, zz4e, zz4f, zz4g, zz4h, zz4i⟩ := below_more zz4; have zn4 : ¬ w.heap.size = w4.heap.size := Nat.ne_of_lt zz4; have zm4 : ¬ w4.heap.size = w.heap.size := Nat.ne_of_gt zz4
  have g4a : w4.cell? ⟨0, 0, none⟩ = some (.int .i64 (-4294967296)) := (by repeat (first | (with_reducible assumption) | (with_reducible refine cell_far (by first | (simp; done) | (simp; omega)) ?_) | (with_reducible refine cell_drew ?_) | (with_reducible refine cell_drewN ?_) | (with_reducible refine cell_kept (by assumption) ?_) | (simp [go_sem]; done) | (with_reducible refine cell_alloc ?_)))
  have g4b : w4.cell? ⟨0, 1, none⟩ = some (.int .i64 4294967296) := (by repeat (first | (with_reducible assumption) | (with_reducible refine cell_far (by first | (simp; done) | (simp; omega)) ?_) | (with_reducible refine cell_drew ?_) | (with_reducible refine cell_drewN ?_) | (with_reducible refine cell_kept (by assumption) ?_) | (simp [go_sem]; done) | (with_reducible refine cell_alloc ?_)))
  have g4c : w4.cell? ⟨1, 0, none⟩ = some (.int .i64 (-1)) := (by repeat (first | (with_reducible assumption) | (with_reducible refine cell_far (by first | (simp; done) | (simp; omega)) ?_) | (with_reducible refine cell_drew ?_) | (with_reducible refine cell_drewN ?_) | (with_reducible refine cell_kept (by assumption) ?_) | (simp [go_sem]; done) | (with_reducible refine cell_alloc ?_)))
  have g4d : w4.cell? ⟨1, 1, none⟩ = some (.int .i64 1) := (by repeat (first | (with_reducible assumption) | (with_reducible refine cell_far (by first | (simp; done) | (simp; omega)) ?_) | (with_reducible refine cell_drew ?_) | (with_reducible refine cell_drewN ?_) | (with_reducible refine cell_kept (by assumption) ?_) | (simp [go_sem]; done) | (with_reducible refine cell_alloc ?_)))
  go_wp2_with fail
  refine (opposite_Sin _).mono ?_
  rintro e w5 ⟨rfl, hw5⟩
  subst hw5
  go_wp2_with fail
  refine (opposite_Cos _).mono ?_
  rintro e w6 ⟨rfl, hw6⟩
  subst hw6
  go_wp2_with fail
  refine (A.out _ _ _ _ _).mono ?_
  rintro e w7 ⟨rfl, hb7⟩
  have hs7 : _ ≤ w7.heap.size := hb7.size
  try simp at hs7
  have o_q70 : Own (w7) (w.heap.size) 0 (.int .i64 0) := (by repeat (first | (with_reducible assumption) | (with_reducible refine own_drew ?_) | (with_reducible refine own_drewN ?_) | (with_reducible refine own_kept (by assumption) ?_) | (refine ⟨?_, ?_⟩ <;> simp [go_sem]; done) | (with_reducible refine own_alloc ?_))); have q70 := o_q70.1; have f_q70 := o_q70.2; have o_q71 : Own (w7) (w.heap.size) 1 (.int .i64 0) := (by repeat (first | (with_reducible assumption) | (with_reducible refine own_drew ?_) | (with_reducible refine own_drewN ?_) | (with_reducible refine own_kept (by assumption) ?_) | (refine ⟨?_, ?_⟩ <;> simp [go_sem]; done) | (with_reducible refine own_alloc ?_))); have q71 := o_q71.1; have f_q71 := o_q71.2
  have o_x70 : Own (w7) (w4.heap.size) 0 (.int .i64 r.1) := (by repeat (first | (with_reducible assumption) | (with_reducible refine own_drew ?_) | (with_reducible refine own_drewN ?_) | (with_reducible refine own_kept (by assumption) ?_) | (refine ⟨?_, ?_⟩ <;> simp [go_sem]; done) | (with_reducible refine own_alloc ?_))); have x70 := o_x70.1; have f_x70 := o_x70.2; have o_x71 : Own (w7) (w4.heap.size) 1 (.int .i64 r.2) := (by repeat (first | (with_reducible assumption) | (with_reducible refine own_drew ?_) | (with_reducible refine own_drewN ?_) | (with_reducible refine own_kept (by assumption) ?_) | (refine ⟨?_, ?_⟩ <;> simp [go_sem]; done) | (with_reducible refine own_alloc ?_))); have x71 := o_x71.1; have f_x71 := o_x71.2
  have g7a : w7.cell? ⟨0, 0, none⟩ = some (.int .i64 (-4294967296)) := (by repeat (first | (with_reducible assumption) | (with_reducible refine cell_far (by first | (simp; done) | (simp; omega)) ?_) | (with_reducible refine cell_drew ?_) | (with_reducible refine cell_drewN ?_) | (with_reducible refine cell_kept (by assumption) ?_) | (simp [go_sem]; done) | (with_reducible refine cell_alloc ?_)))
  have g7b : w7.cell? ⟨0, 1, none⟩ = some (.int .i64 4294967296) := (by repeat (first | (with_reducible assumption) | (with_reducible refine cell_far (by first | (simp; done) | (simp; omega)) ?_) | (with_reducible refine cell_drew ?_) | (with_reducible refine cell_drewN ?_) | (with_reducible refine cell_kept (by assumption) ?_) | (simp [go_sem]; done) | (with_reducible refine cell_alloc ?_)))
  have g7c : w7.cell? ⟨1, 0, none⟩ = some (.int .i64 (-1)) := (by repeat (first | (with_reducible assumption) | (with_reducible refine cell_far (by first | (simp; done) | (simp; omega)) ?_) | (with_reducible refine cell_drew ?_) | (with_reducible refine cell_drewN ?_) | (with_reducible refine cell_kept (by assumption) ?_) | (simp [go_sem]; done) | (with_reducible refine cell_alloc ?_)))
  have g7d : w7.cell? ⟨1, 1, none⟩ = some (.int .i64 1) := (by repeat (first | (with_reducible assumption) | (with_reducible refine cell_far (by first | (simp; done) | (simp; omega)) ?_) | (with_reducible refine cell_drew ?_) | (with_reducible refine cell_drewN ?_) | (with_reducible refine cell_kept (by assumption) ?_) | (simp [go_sem]; done) | (with_reducible refine cell_alloc ?_)))

  have l70 : 0 < w7.heap.size := World.block_lt_of_cell? _ _ g7a
  have l71 : 1 < w7.heap.size := World.block_lt_of_cell? _ _ g7c
  have zz7 : w4.heap.size < w7.heap.size := World.block_lt_of_cell? _ _ x70; obtain ⟨zz7a, zz7b, zz7c, zz7d, zz7e, zz7f, zz7g, zz7h, zz7i⟩ := below_more zz7; have zn7 : ¬ w4.heap.size = w7.heap.size := Nat.ne_of_lt zz7; have zm7 : ¬ w7.heap.size = w4.heap.size := Nat.ne_of_gt zz7
  go_wp2_with fail
  obtain ⟨hlt2, hlt3, hlt4, hlt5, hlt6, hlt7, hlt8, hlt9, hlt10, hlt11⟩ := below_add; go_region_held3 (fun w' => w'.cell? ⟨w4.heap.size, 0, none⟩ = some (.int .i64 r.1) ∧ w'.cell? ⟨w4.heap.size, 1, none⟩ = some (.int .i64 r.2) ∧ w'.cell? ⟨0, 0, none⟩ = some (.int .i64 (-4294967296)) ∧ w'.cell? ⟨0, 1, none⟩ = some (.int .i64 4294967296) ∧ w'.cell? ⟨1, 0, none⟩ = some (.int .i64 (-1)) ∧ w'.cell? ⟨1, 1, none⟩ = some (.int .i64 1)) (first | (with_reducible exact ((And.imp (cell_kept (by assumption)) (And.imp (cell_kept (by assumption)) (And.imp (cell_kept (by assumption)) (And.imp (cell_kept (by assumption)) (And.imp (cell_kept (by assumption)) (cell_kept (by assumption))))))) (by assumption))) | (with_reducible exact ((And.imp (cell_alloc) (And.imp (cell_alloc) (And.imp (cell_alloc) (And.imp (cell_alloc) (And.imp (cell_alloc) (cell_alloc)))))) (by assumption))) | (with_reducible exact ((And.imp (fun h => cell_far (by first | (simp; done) | (simp; omega) | (dsimp only; omega)) (cell_far (by first | (simp; done) | (simp; omega) | (dsimp only; omega)) h)) (And.imp (fun h => cell_far (by first | (simp; done) | (simp; omega) | (dsimp only; omega)) (cell_far (by first | (simp; done) | (simp; omega) | (dsimp only; omega)) h)) (And.imp (fun h => cell_far (by first | (simp; done) | (simp; omega) | (dsimp only; omega)) (cell_far (by first | (simp; done) | (simp; omega) | (dsimp only; omega)) h)) (And.imp (fun h => cell_far (by first | (simp; done) | (simp; omega) | (dsimp only; omega)) (cell_far (by first | (simp; done) | (simp; omega) | (dsimp only; omega)) h)) (And.imp (fun h => cell_far (by first | (simp; done) | (simp; omega) | (dsimp only; omega)) (cell_far (by first | (simp; done) | (simp; omega) | (dsimp only; omega)) h)) (fun h => cell_far (by first | (simp; done) | (simp; omega) | (dsimp only; omega)) (cell_far (by first | (simp; done) | (simp; omega) | (dsimp only; omega)) h))))))) (by assumption))) | (refine ⟨?_, ?_, ?_, ?_, ?_, ?_⟩ <;> repeat (first | (with_reducible assumption) | (with_reducible refine cell_far (by first | (simp; done) | (simp; omega) | (dsimp only; omega)) ?_) | (with_reducible refine cell_drew ?_) | (with_reducible refine cell_drewN ?_) | (with_reducible refine cell_kept (by assumption) ?_) | (simp [go_sem]; done) | (with_reducible refine cell_alloc ?_))) | (simp [go_sem, *]; done)) (first | (go_at_call 127; refine (CosSeries_any r hr.out _ (by refine ⟨?_, ?_, ?_, ?_⟩ <;> simp [go_sem, *])).mono ?_; rintro e w1 ⟨rfl, hb⟩; have hs : _ ≤ w1.heap.size := hb.size; (try simp at hs); obtain ⟨hc, hf, hl, hn, hm⟩ := behind hb) | (go_at_call 70; refine (M.out _ _).mono ?_; rintro e w1 ⟨rfl, hb⟩; have hs : _ ≤ w1.heap.size := hb.size; (try simp at hs); obtain ⟨hc, hf, hl, hn, hm⟩ := behind hb))
  rotate_right
  · (have o_j0 : Own (w1) (w.heap.size) 0 (.int .i64 0) := (by repeat (first | (with_reducible assumption) | (with_reducible refine own_drew ?_) | (with_reducible refine own_drewN ?_) | (with_reducible refine own_kept (by assumption) ?_) | (refine ⟨?_, ?_⟩ <;> simp [go_sem]; done) | (with_reducible refine own_alloc ?_))); have j0 := o_j0.1; have f_j0 := o_j0.2; have o_j1 : Own (w1) (w.heap.size) 1 (.int .i64 0) := (by repeat (first | (with_reducible assumption) | (with_reducible refine own_drew ?_) | (with_reducible refine own_drewN ?_) | (with_reducible refine own_kept (by assumption) ?_) | (refine ⟨?_, ?_⟩ <;> simp [go_sem]; done) | (with_reducible refine own_alloc ?_))); have j1 := o_j1.1; have f_j1 := o_j1.2; have lz := World.block_lt_of_cell? _ _ j0; have o_nb0 : Own (w1) (w7.heap.size) 0 (.int .i64 0) := (by repeat (first | (with_reducible assumption) | (with_reducible refine own_drew ?_) | (with_reducible refine own_drewN ?_) | (with_reducible refine own_kept (by assumption) ?_) | (refine ⟨?_, ?_⟩ <;> simp [go_sem]; done) | (with_reducible refine own_alloc ?_))); have nb0 := o_nb0.1; have f_nb0 := o_nb0.2; have o_nb1 : Own (w1) (w7.heap.size) 1 (.int .i64 0) := (by repeat (first | (with_reducible assumption) | (with_reducible refine own_drew ?_) | (with_reducible refine own_drewN ?_) | (with_reducible refine own_kept (by assumption) ?_) | (refine ⟨?_, ?_⟩ <;> simp [go_sem]; done) | (with_reducible refine own_alloc ?_))); have nb1 := o_nb1.1; have f_nb1 := o_nb1.2; go_wp2; exact bodyPost_ret (v := .agg #[.int .i64 (metI (cosS (r)) rng).1, .int .i64 (metI (cosS (r)) rng).2]) (by simp [results, Tryz.results84, go_sem, j0, j1, lz]) rfl ⟨by rw [E.out], (by repeat (first | exact Below.refl _ _ | refine Below.drew ?_ | refine below_dn ?_ _ | refine Below.setCell ?_ (by first | omega | (simp; done) | (simp; omega)) _ | refine Below.alloc ?_ (by first | omega | (simp; done) | (simp; omega)) _ | refine Below.trans ?_ (Below.mono (by assumption) (by first | omega | (simp; done) | (simp; omega)))))⟩)
  all_goals (have o_j0 : Own (w1) (w.heap.size) 0 (.int .i64 0) := (by repeat (first | (with_reducible assumption) | (with_reducible refine own_drew ?_) | (with_reducible refine own_drewN ?_) | (with_reducible refine own_kept (by assumption) ?_) | (refine ⟨?_, ?_⟩ <;> simp [go_sem]; done) | (with_reducible refine own_alloc ?_))); have j0 := o_j0.1; have f_j0 := o_j0.2; have o_j1 : Own (w1) (w.heap.size) 1 (.int .i64 0) := (by repeat (first | (with_reducible assumption) | (with_reducible refine own_drew ?_) | (with_reducible refine own_drewN ?_) | (with_reducible refine own_kept (by assumption) ?_) | (refine ⟨?_, ?_⟩ <;> simp [go_sem]; done) | (with_reducible refine own_alloc ?_))); have j1 := o_j1.1; have f_j1 := o_j1.2; have lz := World.block_lt_of_cell? _ _ j0; go_wp2; exact bodyPost_ret (v := .agg #[.int .i64 (metI (cosS (r)) rng).1, .int .i64 (metI (cosS (r)) rng).2]) (by simp [results, Tryz.results84, go_sem, j0, j1, lz]) rfl ⟨by rw [E.out], (by repeat (first | exact Below.refl _ _ | refine Below.drew ?_ | refine below_dn ?_ _ | refine Below.setCell ?_ (by first | omega | (simp; done) | (simp; omega)) _ | refine Below.alloc ?_ (by first | omega | (simp; done) | (simp; omega)) _ | refine Below.trans ?_ (Below.mono (by assumption) (by first | omega | (simp; done) | (simp; omega)))))⟩)
end Go.Proofs.YtnhpacaidcjaoaaGreatDoor
