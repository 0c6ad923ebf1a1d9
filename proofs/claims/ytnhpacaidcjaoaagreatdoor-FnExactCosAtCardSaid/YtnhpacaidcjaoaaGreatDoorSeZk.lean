/- Contracts of SinAt and CosAt in the program. Conditions: numbers are int64; the program's two intervals are laid. Contracts of SinAt and CosAt in the model. Conditions: numbers are int64. The laws of SinAt and CosAt. Conditions: numbers are int64; the program's two intervals are laid. -/
import Derived.Test.YtnhpacaidcjaoaaGreatDoorSeG
import Derived.Test.YtnhpacaidcjaoaaGreatDoorSeH
import Derived.Outline
import Derived.Test.YtnhpacaidcjaoaaGreatDoorSeB
import Derived.Test.YtnhpacaidcjaoaaGreatDoorTrA
import Derived.Test.YtnhpacaidcjaoaaGreatDoorTrD
import Derived.Test.YtnhpacaidcjaoaaGreatDoorNumU
import Derived.Test.YtnhpacaidcjaoaaGreatDoorIvV
import Derived.Deep.RegionHeld3
import Derived.Test.YtnhpacaidcjaoaaGreatDoorIvK
namespace Go.Proofs.YtnhpacaidcjaoaaGreatDoor
open Go.ChangeShapes Go.WideShapes Go.ChangeAt Go.RowKit
set_option linter.unusedVariables false
set_option maxRecDepth 100000
set_option linter.unusedSimpArgs false
set_option maxHeartbeats 1000000
theorem sineAt_any (n q : Int) (hn : In64 n) (q0 : 0 ≤ q) (q1 : q ≤ 1) (w : World) (hg : Glo w) : Calls Tryz.prog 84 #[.int .i64 n, .int .i64 q] w fun e w' =>
    e = .returned (.agg #[.int .i64 (sinA n q).1, .int .i64 (sinA n q).2]) ∧ Below w.heap.size w w' := by
  by_cases a : Ang n
  · have m : (qrt n + q) % 4 = 0 ∨ (qrt n + q) % 4 = 1 ∨ (qrt n + q) % 4 = 2 ∨ (qrt n + q) % 4 = 3 := by omega
    rcases m with m | m | m | m
    · exact sineAt_0 n q hn q0 q1 a m w hg
    · exact sineAt_1 n q hn q0 q1 a m w hg
    · exact sineAt_2 n q hn q0 q1 a m w hg
    · exact sineAt_3 n q hn q0 q1 a m w hg
  · exact sineAt_no n q a w hg
theorem SinAt_any (n : Int) (hn : In64 n) (w : World) (hg : Glo w) : Calls Tryz.prog 35 #[.int .i64 n] w fun e w' =>
    e = .returned (.agg #[.int .i64 (sinA n 0).1, .int .i64 (sinA n 0).2]) ∧ Below w.heap.size w w' := by
  have S := Lib.hid (fun w hg => sineAt_any n 0 hn (by omega) (by omega) w hg)
  generalize sinA n 0 = r at *
  go_enter Tryz.func35, Tryz.ntmps35
  go_wp2_with fail
  refine (S.out _ (hg.alloc _)).mono ?_
  rintro e w1 ⟨rfl, hb1⟩
  have hs1 : _ ≤ w1.heap.size := hb1.size
  try simp at hs1
  have o_qr10 : Own (w1) (w.heap.size) 0 (.int .i64 0) := (by repeat (first | (with_reducible assumption) | (with_reducible refine own_drew ?_) | (with_reducible refine own_drewN ?_) | (with_reducible refine own_kept (by assumption) ?_) | (refine ⟨?_, ?_⟩ <;> simp [go_sem]; done) | (with_reducible refine own_alloc ?_))); obtain ⟨qr10, f_qr10⟩ := o_qr10; have o_qr11 : Own (w1) (w.heap.size) 1 (.int .i64 0) := (by repeat (first | (with_reducible assumption) | (with_reducible refine own_drew ?_) | (with_reducible refine own_drewN ?_) | (with_reducible refine own_kept (by assumption) ?_) | (refine ⟨?_, ?_⟩ <;> simp [go_sem]; done) | (with_reducible refine own_alloc ?_))); obtain ⟨qr11, f_qr11⟩ := o_qr11
  go_wp2
  exact bodyPost_ret (v := .agg #[.int .i64 (r).1, .int .i64 (r).2]) (by simp [results, Tryz.results35, go_sem, qr10, qr11]) rfl ⟨rfl, (by repeat (first | exact Below.refl _ _ | refine Below.drew ?_ | refine below_dn ?_ _ | refine Below.setCell ?_ (by first | omega | (simp; done) | (simp; omega)) _ | refine Below.alloc ?_ (by first | omega | (simp; done) | (simp; omega)) _ | refine Below.trans ?_ (Below.mono (by assumption) (by first | omega | (simp; done) | (simp; omega)))))⟩
theorem CosAt_any (n : Int) (hn : In64 n) (w : World) (hg : Glo w) : Calls Tryz.prog 37 #[.int .i64 n] w fun e w' =>
    e = .returned (.agg #[.int .i64 (sinA n 1).1, .int .i64 (sinA n 1).2]) ∧ Below w.heap.size w w' := by
  have S := Lib.hid (fun w hg => sineAt_any n 1 hn (by omega) (by omega) w hg)
  generalize sinA n 1 = r at *
  go_enter Tryz.func37, Tryz.ntmps37
  go_wp2_with fail
  refine (S.out _ (hg.alloc _)).mono ?_
  rintro e w1 ⟨rfl, hb1⟩
  have hs1 : _ ≤ w1.heap.size := hb1.size
  try simp at hs1
  have o_qr10 : Own (w1) (w.heap.size) 0 (.int .i64 0) := (by repeat (first | (with_reducible assumption) | (with_reducible refine own_drew ?_) | (with_reducible refine own_drewN ?_) | (with_reducible refine own_kept (by assumption) ?_) | (refine ⟨?_, ?_⟩ <;> simp [go_sem]; done) | (with_reducible refine own_alloc ?_))); obtain ⟨qr10, f_qr10⟩ := o_qr10; have o_qr11 : Own (w1) (w.heap.size) 1 (.int .i64 0) := (by repeat (first | (with_reducible assumption) | (with_reducible refine own_drew ?_) | (with_reducible refine own_drewN ?_) | (with_reducible refine own_kept (by assumption) ?_) | (refine ⟨?_, ?_⟩ <;> simp [go_sem]; done) | (with_reducible refine own_alloc ?_))); obtain ⟨qr11, f_qr11⟩ := o_qr11
  go_wp2
  exact bodyPost_ret (v := .agg #[.int .i64 (r).1, .int .i64 (r).2]) (by simp [results, Tryz.results37, go_sem, qr10, qr11]) rfl ⟨rfl, (by repeat (first | exact Below.refl _ _ | refine Below.drew ?_ | refine below_dn ?_ _ | refine Below.setCell ?_ (by first | omega | (simp; done) | (simp; omega)) _ | refine Below.alloc ?_ (by first | omega | (simp; done) | (simp; omega)) _ | refine Below.trans ?_ (Below.mono (by assumption) (by first | omega | (simp; done) | (simp; omega)))))⟩
end Go.Proofs.YtnhpacaidcjaoaaGreatDoor
namespace Go.Proofs.YtnhpacaidcjaoaaGreatDoor
open Go.ChangeShapes Go.WideShapes Go.ChangeAt Go.RowKit
set_option linter.unusedVariables false
set_option maxRecDepth 100000
set_option linter.unusedSimpArgs false
set_option maxHeartbeats 1000000
theorem l05At_any (n : Int) (w : World) : Calls Tryz.prog 46 #[.int .i64 n] w fun e w' =>
    e = .returned (.agg #[.int .i64 n, .int .i64 n]) ∧ Below w.heap.size w w' := by
  go_enter Tryz.func46, Tryz.ntmps46
  go_wp2
  exact bodyPost_ret (v := .agg #[.int .i64 n, .int .i64 n]) (by simp [results, Tryz.results46, go_sem]) rfl ⟨rfl, (by repeat (first | exact Below.refl _ _ | refine Below.drew ?_ | refine Below.setCell ?_ (by first | omega | (simp; done) | (simp; omega)) _ | refine Below.alloc ?_ (by first | omega | (simp; done) | (simp; omega)) _ | refine Below.trans ?_ (Below.mono (by assumption) (by first | omega | (simp; done) | (simp; omega)))))⟩
theorem l06Meet_any (x : Iv) (ho : olpI x rng = true) (w : World) : Calls Tryz.prog 122 #[.agg #[.int .i64 x.1, .int .i64 x.2]] w fun e w' =>
    e = .returned (.agg #[.int .i64 (metI x rng).1, .int .i64 (metI x rng).2]) ∧ Below w.heap.size w w' := by
  have M := Lib.hid (fun w => sMeetI_any x rng w)
  rw [ho] at M
  generalize metI x rng = z at *
  go_enter Tryz.func122, Tryz.ntmps122
  go_wp2_with fail
  obtain ⟨hlt2, hlt3, hlt4, hlt5, hlt6, hlt7, hlt8, hlt9, hlt10, hlt11⟩ := below_add; go_region_held3 (fun w' => w'.cell? ⟨w.heap.size, 0, none⟩ = some (.int .i64 x.1) ∧ w'.cell? ⟨w.heap.size, 1, none⟩ = some (.int .i64 x.2)) (first | (with_reducible exact ((And.imp (cell_kept (by assumption)) (cell_kept (by assumption))) (by assumption))) | (with_reducible exact ((And.imp (cell_alloc) (cell_alloc)) (by assumption))) | (with_reducible exact ((And.imp (fun h => cell_far (by first | (simp; done) | (simp; omega) | (dsimp only; omega)) (cell_far (by first | (simp; done) | (simp; omega) | (dsimp only; omega)) h)) (fun h => cell_far (by first | (simp; done) | (simp; omega) | (dsimp only; omega)) (cell_far (by first | (simp; done) | (simp; omega) | (dsimp only; omega)) h))) (by assumption))) | (refine ⟨?_, ?_⟩ <;> repeat (first | (with_reducible assumption) | (with_reducible refine cell_far (by first | (simp; done) | (simp; omega) | (dsimp only; omega)) ?_) | (with_reducible refine cell_drew ?_) | (with_reducible refine cell_drewN ?_) | (with_reducible refine cell_kept (by assumption) ?_) | (simp [go_sem]; done) | (with_reducible refine cell_alloc ?_))) | (simp [go_sem, *]; done)) (first | (go_at_call 72; refine (l06Ring_any _).mono ?_; rintro e w1 ⟨rfl, hb⟩; have hs : _ ≤ w1.heap.size := hb.size; (try simp at hs); obtain ⟨hc, hf, hl, hn, hm⟩ := behind hb) | (go_at_call 65; refine (M.out _).mono ?_; rintro e w1 ⟨rfl, hb⟩; have hs : _ ≤ w1.heap.size := hb.size; (try simp at hs); obtain ⟨hc, hf, hl, hn, hm⟩ := behind hb))
  rotate_right
  · (have o_j0 : Own (w1) (w.heap.size + 1) 0 (.int .i64 0) := (by repeat (first | (with_reducible assumption) | (with_reducible refine own_drew ?_) | (with_reducible refine own_drewN ?_) | (with_reducible refine own_kept (by assumption) ?_) | (refine ⟨?_, ?_⟩ <;> simp [go_sem]; done) | (with_reducible refine own_alloc ?_))); have j0 := o_j0.1; have f_j0 := o_j0.2; have o_j1 : Own (w1) (w.heap.size + 1) 1 (.int .i64 0) := (by repeat (first | (with_reducible assumption) | (with_reducible refine own_drew ?_) | (with_reducible refine own_drewN ?_) | (with_reducible refine own_kept (by assumption) ?_) | (refine ⟨?_, ?_⟩ <;> simp [go_sem]; done) | (with_reducible refine own_alloc ?_))); have j1 := o_j1.1; have f_j1 := o_j1.2; have lz := World.block_lt_of_cell? _ _ j0; have o_nb0 : Own (w1) (w.heap.size + 1 + 1) 0 (.int .i64 0) := (by repeat (first | (with_reducible assumption) | (with_reducible refine own_drew ?_) | (with_reducible refine own_drewN ?_) | (with_reducible refine own_kept (by assumption) ?_) | (refine ⟨?_, ?_⟩ <;> simp [go_sem]; done) | (with_reducible refine own_alloc ?_))); have nb0 := o_nb0.1; have f_nb0 := o_nb0.2; have o_nb1 : Own (w1) (w.heap.size + 1 + 1) 1 (.int .i64 0) := (by repeat (first | (with_reducible assumption) | (with_reducible refine own_drew ?_) | (with_reducible refine own_drewN ?_) | (with_reducible refine own_kept (by assumption) ?_) | (refine ⟨?_, ?_⟩ <;> simp [go_sem]; done) | (with_reducible refine own_alloc ?_))); have nb1 := o_nb1.1; have f_nb1 := o_nb1.2; go_wp2; exact bodyPost_ret (v := .agg #[.int .i64 (z).1, .int .i64 (z).2]) (by simp [results, Tryz.results122, go_sem, j0, j1, lz]) rfl ⟨rfl, (by repeat (first | exact Below.refl _ _ | refine Below.drew ?_ | refine below_dn ?_ _ | refine Below.setCell ?_ (by first | omega | (simp; done) | (simp; omega)) _ | refine Below.alloc ?_ (by first | omega | (simp; done) | (simp; omega)) _ | refine Below.trans ?_ (Below.mono (by assumption) (by first | omega | (simp; done) | (simp; omega)))))⟩)
  all_goals (have o_j0 : Own (w1) (w.heap.size + 1) 0 (.int .i64 0) := (by repeat (first | (with_reducible assumption) | (with_reducible refine own_drew ?_) | (with_reducible refine own_drewN ?_) | (with_reducible refine own_kept (by assumption) ?_) | (refine ⟨?_, ?_⟩ <;> simp [go_sem]; done) | (with_reducible refine own_alloc ?_))); have j0 := o_j0.1; have f_j0 := o_j0.2; have o_j1 : Own (w1) (w.heap.size + 1) 1 (.int .i64 0) := (by repeat (first | (with_reducible assumption) | (with_reducible refine own_drew ?_) | (with_reducible refine own_drewN ?_) | (with_reducible refine own_kept (by assumption) ?_) | (refine ⟨?_, ?_⟩ <;> simp [go_sem]; done) | (with_reducible refine own_alloc ?_))); have j1 := o_j1.1; have f_j1 := o_j1.2; have lz := World.block_lt_of_cell? _ _ j0; go_wp2; exact bodyPost_ret (v := .agg #[.int .i64 (z).1, .int .i64 (z).2]) (by simp [results, Tryz.results122, go_sem, j0, j1, lz]) rfl ⟨rfl, (by repeat (first | exact Below.refl _ _ | refine Below.drew ?_ | refine below_dn ?_ _ | refine Below.setCell ?_ (by first | omega | (simp; done) | (simp; omega)) _ | refine Below.alloc ?_ (by first | omega | (simp; done) | (simp; omega)) _ | refine Below.trans ?_ (Below.mono (by assumption) (by first | omega | (simp; done) | (simp; omega)))))⟩)
theorem l06At_no (n q : Int) (a : ¬ Ang n) (w : World) : Calls Tryz.prog 83 #[.int .i64 n, .int .i64 q] w fun e w' =>
    e = .returned (.agg #[.int .i64 (sinA n q).1, .int .i64 (sinA n q).2]) ∧ Below w.heap.size w w' := by
  have C := Lib.hid (fun w => l06Angle_any n w)
  have B := Lib.hid (show ang n = false from decide_eq_false a)
  have E := Lib.hid (show sinA n q = rng from if_neg a)
  clear a
  go_enter Tryz.func83, Tryz.ntmps83
  go_wp2_with fail
  refine (C.out _).mono ?_
  rintro e w1 ⟨rfl, hb1⟩
  have hs1 : _ ≤ w1.heap.size := hb1.size
  try simp at hs1
  rw [B.out]
  have o_r10 : Own (w1) (w.heap.size) 0 (.int .i64 0) := (by repeat (first | (with_reducible assumption) | (with_reducible refine own_drew ?_) | (with_reducible refine own_drewN ?_) | (with_reducible refine own_kept (by assumption) ?_) | (refine ⟨?_, ?_⟩ <;> simp [go_sem]; done) | (with_reducible refine own_alloc ?_))); have r10 := o_r10.1; have f_r10 := o_r10.2; have o_r11 : Own (w1) (w.heap.size) 1 (.int .i64 0) := (by repeat (first | (with_reducible assumption) | (with_reducible refine own_drew ?_) | (with_reducible refine own_drewN ?_) | (with_reducible refine own_kept (by assumption) ?_) | (refine ⟨?_, ?_⟩ <;> simp [go_sem]; done) | (with_reducible refine own_alloc ?_))); have r11 := o_r11.1; have f_r11 := o_r11.2
  go_wp2_with fail
  refine (l06Ring_any _).mono ?_
  rintro e w2 ⟨rfl, hb2⟩
  have hs2 : _ ≤ w2.heap.size := hb2.size
  try simp at hs2
  have o_r20 : Own (w2) (w.heap.size) 0 (.int .i64 0) := (by repeat (first | (with_reducible assumption) | (with_reducible refine own_drew ?_) | (with_reducible refine own_drewN ?_) | (with_reducible refine own_kept (by assumption) ?_) | (refine ⟨?_, ?_⟩ <;> simp [go_sem]; done) | (with_reducible refine own_alloc ?_))); have r20 := o_r20.1; have f_r20 := o_r20.2; have o_r21 : Own (w2) (w.heap.size) 1 (.int .i64 0) := (by repeat (first | (with_reducible assumption) | (with_reducible refine own_drew ?_) | (with_reducible refine own_drewN ?_) | (with_reducible refine own_kept (by assumption) ?_) | (refine ⟨?_, ?_⟩ <;> simp [go_sem]; done) | (with_reducible refine own_alloc ?_))); have r21 := o_r21.1; have f_r21 := o_r21.2
  go_wp2
  exact bodyPost_ret (v := .agg #[.int .i64 (-4294967296), .int .i64 4294967296]) (by simp [results, Tryz.results83, go_sem, r20, r21]) rfl ⟨(by first | (rw [E.out]; done) | (rw [E.out]; rfl) | (simp [E.out]; done)), (by repeat (first | exact Below.refl _ _ | refine Below.drew ?_ | refine below_dn ?_ _ | refine Below.setCell ?_ (by first | omega | (simp; done) | (simp; omega)) _ | refine Below.alloc ?_ (by first | omega | (simp; done) | (simp; omega)) _ | refine Below.trans ?_ (Below.mono (by assumption) (by first | omega | (simp; done) | (simp; omega)))))⟩
theorem l06At_0 (n q : Int) (hn : In64 n) (q0 : 0 ≤ q) (q1 : q ≤ 1) (a : Ang n) (hm : (qrt n + q) % 4 = 0) (w : World) : Calls Tryz.prog 83 #[.int .i64 n, .int .i64 q] w fun e w' =>
    e = .returned (.agg #[.int .i64 (sinA n q).1, .int .i64 (sinA n q).2]) ∧ Below w.heap.size w w' := by
  have C := Lib.hid (fun w => l06Angle_any n w)
  have B := Lib.hid (show ang n = true from decide_eq_true a)
  have kq := qrt_in n
  have E := Lib.hid (show sinA n q = metI (sinS (resA n)) rng by unfold sinA; rw [if_pos a, hm]; simp [quaS])
  have K := Lib.hid (fun w => sQuarterOf_any n hn w)
  have T := Lib.hid (fun w => sTurnI_any (qrt n) w)
  have S := Lib.hid (fun w => sSubI_any (n, n) (turI (qrt n)) w)
  have hR := Lib.hid (show subI (n, n) (turI (qrt n)) = resA n from rfl)
  rw [hR.out] at S
  have W := Lib.hid (fun w => sSinSeries_any (resA n) w)
  have N := Lib.hid (fun w => sNegI_any (sinS (resA n)) w)
  have ho : olpI (sinS (resA n)) rng = true := by have := sinA_meets a 0; simpa [quaS] using this
  have M := Lib.hid (fun w => l06Meet_any (sinS (resA n)) ho w)
  have AM : bits .and .i64 (qrt n + q) 3 = 0 := by rw [and_mask2]; exact hm
  clear a hR hm hn ho
  generalize metI (sinS (resA n)) rng = z at *
  generalize resA n = r at *
  generalize turI (qrt n) = t at *
  obtain ⟨k0, k1⟩ := kq
  generalize qrt n = k at *
  generalize sinA n q = Y at *
  go_enter Tryz.func83, Tryz.ntmps83
  go_wp2_with fail
  refine (C.out _).mono ?_
  rintro e w1 ⟨rfl, hb1⟩
  have hs1 : _ ≤ w1.heap.size := hb1.size
  try simp at hs1
  rw [B.out]
  go_wp2_with fail
  refine (K.out _).mono ?_
  rintro e w2 ⟨rfl, hb2⟩
  have hs2 : _ ≤ w2.heap.size := hb2.size
  try simp at hs2
  go_wp2_with fail
  refine (l05At_any n _).mono ?_
  rintro e w3 ⟨rfl, hb3⟩
  have hs3 : _ ≤ w3.heap.size := hb3.size
  try simp at hs3
  go_wp2_with fail
  refine (T.out _).mono ?_
  rintro e w4 ⟨rfl, hb4⟩
  have hs4 : _ ≤ w4.heap.size := hb4.size
  try simp at hs4
  go_wp2_with fail
  refine (S.out _).mono ?_
  rintro e w5 ⟨rfl, hb5⟩
  have hs5 : _ ≤ w5.heap.size := hb5.size
  try simp at hs5
  have o_q50 : Own (w5) (w.heap.size) 0 (.int .i64 0) := (by repeat (first | (with_reducible assumption) | (with_reducible refine own_drew ?_) | (with_reducible refine own_drewN ?_) | (with_reducible refine own_kept (by assumption) ?_) | (refine ⟨?_, ?_⟩ <;> simp [go_sem]; done) | (with_reducible refine own_alloc ?_))); have q50 := o_q50.1; have f_q50 := o_q50.2; have o_q51 : Own (w5) (w.heap.size) 1 (.int .i64 0) := (by repeat (first | (with_reducible assumption) | (with_reducible refine own_drew ?_) | (with_reducible refine own_drewN ?_) | (with_reducible refine own_kept (by assumption) ?_) | (refine ⟨?_, ?_⟩ <;> simp [go_sem]; done) | (with_reducible refine own_alloc ?_))); have q51 := o_q51.1; have f_q51 := o_q51.2
  have zz5 : w.heap.size < w5.heap.size := World.block_lt_of_cell? _ _ q50; obtain ⟨zz5a, zz5b, zz5c, zz5d, zz5e, zz5f, zz5g, zz5h, zz5i⟩ := below_more zz5; have zn5 : ¬ w.heap.size = w5.heap.size := Nat.ne_of_lt zz5; have zm5 : ¬ w5.heap.size = w.heap.size := Nat.ne_of_gt zz5
  go_wp2_with fail
  refine (W.out _).mono ?_
  rintro e w6 ⟨rfl, hb6⟩
  have hs6 : _ ≤ w6.heap.size := hb6.size
  try simp at hs6
  have o_q60 : Own (w6) (w.heap.size) 0 (.int .i64 0) := (by repeat (first | (with_reducible assumption) | (with_reducible refine own_drew ?_) | (with_reducible refine own_drewN ?_) | (with_reducible refine own_kept (by assumption) ?_) | (refine ⟨?_, ?_⟩ <;> simp [go_sem]; done) | (with_reducible refine own_alloc ?_))); have q60 := o_q60.1; have f_q60 := o_q60.2; have o_q61 : Own (w6) (w.heap.size) 1 (.int .i64 0) := (by repeat (first | (with_reducible assumption) | (with_reducible refine own_drew ?_) | (with_reducible refine own_drewN ?_) | (with_reducible refine own_kept (by assumption) ?_) | (refine ⟨?_, ?_⟩ <;> simp [go_sem]; done) | (with_reducible refine own_alloc ?_))); have q61 := o_q61.1; have f_q61 := o_q61.2
  go_wp2_with fail
  refine (M.out _).mono ?_
  rintro e w8 ⟨rfl, hb8⟩
  have hs8 : _ ≤ w8.heap.size := hb8.size
  try simp at hs8
  have o_q80 : Own (w8) (w.heap.size) 0 (.int .i64 0) := (by repeat (first | (with_reducible assumption) | (with_reducible refine own_drew ?_) | (with_reducible refine own_drewN ?_) | (with_reducible refine own_kept (by assumption) ?_) | (refine ⟨?_, ?_⟩ <;> simp [go_sem]; done) | (with_reducible refine own_alloc ?_))); obtain ⟨q80, f_q80⟩ := o_q80; have o_q81 : Own (w8) (w.heap.size) 1 (.int .i64 0) := (by repeat (first | (with_reducible assumption) | (with_reducible refine own_drew ?_) | (with_reducible refine own_drewN ?_) | (with_reducible refine own_kept (by assumption) ?_) | (refine ⟨?_, ?_⟩ <;> simp [go_sem]; done) | (with_reducible refine own_alloc ?_))); obtain ⟨q81, f_q81⟩ := o_q81
  go_wp2
  exact bodyPost_ret (v := .agg #[.int .i64 (z).1, .int .i64 (z).2]) (by simp [results, Tryz.results83, go_sem, q80, q81]) rfl ⟨by rw [E.out], (by repeat (first | exact Below.refl _ _ | refine Below.drew ?_ | refine below_dn ?_ _ | refine Below.setCell ?_ (by first | omega | (simp; done) | (simp; omega)) _ | refine Below.alloc ?_ (by first | omega | (simp; done) | (simp; omega)) _ | refine Below.trans ?_ (Below.mono (by assumption) (by first | omega | (simp; done) | (simp; omega)))))⟩
theorem l06At_1 (n q : Int) (hn : In64 n) (q0 : 0 ≤ q) (q1 : q ≤ 1) (a : Ang n) (hm : (qrt n + q) % 4 = 1) (w : World) : Calls Tryz.prog 83 #[.int .i64 n, .int .i64 q] w fun e w' =>
    e = .returned (.agg #[.int .i64 (sinA n q).1, .int .i64 (sinA n q).2]) ∧ Below w.heap.size w w' := by
  have C := Lib.hid (fun w => l06Angle_any n w)
  have B := Lib.hid (show ang n = true from decide_eq_true a)
  have kq := qrt_in n
  have E := Lib.hid (show sinA n q = metI (cosS (resA n)) rng by unfold sinA; rw [if_pos a, hm]; simp [quaS])
  have K := Lib.hid (fun w => sQuarterOf_any n hn w)
  have T := Lib.hid (fun w => sTurnI_any (qrt n) w)
  have S := Lib.hid (fun w => sSubI_any (n, n) (turI (qrt n)) w)
  have hR := Lib.hid (show subI (n, n) (turI (qrt n)) = resA n from rfl)
  rw [hR.out] at S
  have W := Lib.hid (fun w => sCosSeries_any (resA n) w)
  have N := Lib.hid (fun w => sNegI_any (cosS (resA n)) w)
  have ho : olpI (cosS (resA n)) rng = true := by have := sinA_meets a 1; simpa [quaS] using this
  have M := Lib.hid (fun w => l06Meet_any (cosS (resA n)) ho w)
  have AM : bits .and .i64 (qrt n + q) 3 = 1 := by rw [and_mask2]; exact hm
  clear a hR hm hn ho
  generalize metI (cosS (resA n)) rng = z at *
  generalize resA n = r at *
  generalize turI (qrt n) = t at *
  obtain ⟨k0, k1⟩ := kq
  generalize qrt n = k at *
  generalize sinA n q = Y at *
  go_enter Tryz.func83, Tryz.ntmps83
  go_wp2_with fail
  refine (C.out _).mono ?_
  rintro e w1 ⟨rfl, hb1⟩
  have hs1 : _ ≤ w1.heap.size := hb1.size
  try simp at hs1
  rw [B.out]
  go_wp2_with fail
  refine (K.out _).mono ?_
  rintro e w2 ⟨rfl, hb2⟩
  have hs2 : _ ≤ w2.heap.size := hb2.size
  try simp at hs2
  go_wp2_with fail
  refine (l05At_any n _).mono ?_
  rintro e w3 ⟨rfl, hb3⟩
  have hs3 : _ ≤ w3.heap.size := hb3.size
  try simp at hs3
  go_wp2_with fail
  refine (T.out _).mono ?_
  rintro e w4 ⟨rfl, hb4⟩
  have hs4 : _ ≤ w4.heap.size := hb4.size
  try simp at hs4
  go_wp2_with fail
  refine (S.out _).mono ?_
  rintro e w5 ⟨rfl, hb5⟩
  have hs5 : _ ≤ w5.heap.size := hb5.size
  try simp at hs5
  have o_q50 : Own (w5) (w.heap.size) 0 (.int .i64 0) := (by repeat (first | (with_reducible assumption) | (with_reducible refine own_drew ?_) | (with_reducible refine own_drewN ?_) | (with_reducible refine own_kept (by assumption) ?_) | (refine ⟨?_, ?_⟩ <;> simp [go_sem]; done) | (with_reducible refine own_alloc ?_))); have q50 := o_q50.1; have f_q50 := o_q50.2; have o_q51 : Own (w5) (w.heap.size) 1 (.int .i64 0) := (by repeat (first | (with_reducible assumption) | (with_reducible refine own_drew ?_) | (with_reducible refine own_drewN ?_) | (with_reducible refine own_kept (by assumption) ?_) | (refine ⟨?_, ?_⟩ <;> simp [go_sem]; done) | (with_reducible refine own_alloc ?_))); have q51 := o_q51.1; have f_q51 := o_q51.2
  have zz5 : w.heap.size < w5.heap.size := World.block_lt_of_cell? _ _ q50; obtain ⟨zz5a, zz5b, zz5c, zz5d, zz5e, zz5f, zz5g, zz5h, zz5i⟩ := below_more zz5; have zn5 : ¬ w.heap.size = w5.heap.size := Nat.ne_of_lt zz5; have zm5 : ¬ w5.heap.size = w.heap.size := Nat.ne_of_gt zz5
  go_wp2_with fail
  refine (W.out _).mono ?_
  rintro e w6 ⟨rfl, hb6⟩
  have hs6 : _ ≤ w6.heap.size := hb6.size
  try simp at hs6
  have o_q60 : Own (w6) (w.heap.size) 0 (.int .i64 0) := (by repeat (first | (with_reducible assumption) | (with_reducible refine own_drew ?_) | (with_reducible refine own_drewN ?_) | (with_reducible refine own_kept (by assumption) ?_) | (refine ⟨?_, ?_⟩ <;> simp [go_sem]; done) | (with_reducible refine own_alloc ?_))); have q60 := o_q60.1; have f_q60 := o_q60.2; have o_q61 : Own (w6) (w.heap.size) 1 (.int .i64 0) := (by repeat (first | (with_reducible assumption) | (with_reducible refine own_drew ?_) | (with_reducible refine own_drewN ?_) | (with_reducible refine own_kept (by assumption) ?_) | (refine ⟨?_, ?_⟩ <;> simp [go_sem]; done) | (with_reducible refine own_alloc ?_))); have q61 := o_q61.1; have f_q61 := o_q61.2
  go_wp2_with fail
  refine (M.out _).mono ?_
  rintro e w8 ⟨rfl, hb8⟩
  have hs8 : _ ≤ w8.heap.size := hb8.size
  try simp at hs8
  have o_q80 : Own (w8) (w.heap.size) 0 (.int .i64 0) := (by repeat (first | (with_reducible assumption) | (with_reducible refine own_drew ?_) | (with_reducible refine own_drewN ?_) | (with_reducible refine own_kept (by assumption) ?_) | (refine ⟨?_, ?_⟩ <;> simp [go_sem]; done) | (with_reducible refine own_alloc ?_))); obtain ⟨q80, f_q80⟩ := o_q80; have o_q81 : Own (w8) (w.heap.size) 1 (.int .i64 0) := (by repeat (first | (with_reducible assumption) | (with_reducible refine own_drew ?_) | (with_reducible refine own_drewN ?_) | (with_reducible refine own_kept (by assumption) ?_) | (refine ⟨?_, ?_⟩ <;> simp [go_sem]; done) | (with_reducible refine own_alloc ?_))); obtain ⟨q81, f_q81⟩ := o_q81
  go_wp2
  exact bodyPost_ret (v := .agg #[.int .i64 (z).1, .int .i64 (z).2]) (by simp [results, Tryz.results83, go_sem, q80, q81]) rfl ⟨by rw [E.out], (by repeat (first | exact Below.refl _ _ | refine Below.drew ?_ | refine below_dn ?_ _ | refine Below.setCell ?_ (by first | omega | (simp; done) | (simp; omega)) _ | refine Below.alloc ?_ (by first | omega | (simp; done) | (simp; omega)) _ | refine Below.trans ?_ (Below.mono (by assumption) (by first | omega | (simp; done) | (simp; omega)))))⟩
theorem l06At_2 (n q : Int) (hn : In64 n) (q0 : 0 ≤ q) (q1 : q ≤ 1) (a : Ang n) (hm : (qrt n + q) % 4 = 2) (w : World) : Calls Tryz.prog 83 #[.int .i64 n, .int .i64 q] w fun e w' =>
    e = .returned (.agg #[.int .i64 (sinA n q).1, .int .i64 (sinA n q).2]) ∧ Below w.heap.size w w' := by
  have C := Lib.hid (fun w => l06Angle_any n w)
  have B := Lib.hid (show ang n = true from decide_eq_true a)
  have kq := qrt_in n
  have E := Lib.hid (show sinA n q = metI (negI (sinS (resA n))) rng by unfold sinA; rw [if_pos a, hm]; simp [quaS])
  have K := Lib.hid (fun w => sQuarterOf_any n hn w)
  have T := Lib.hid (fun w => sTurnI_any (qrt n) w)
  have S := Lib.hid (fun w => sSubI_any (n, n) (turI (qrt n)) w)
  have hR := Lib.hid (show subI (n, n) (turI (qrt n)) = resA n from rfl)
  rw [hR.out] at S
  have W := Lib.hid (fun w => sSinSeries_any (resA n) w)
  have N := Lib.hid (fun w => sNegI_any (sinS (resA n)) w)
  have ho : olpI (negI (sinS (resA n))) rng = true := by have := sinA_meets a 2; simpa [quaS] using this
  have M := Lib.hid (fun w => l06Meet_any (negI (sinS (resA n))) ho w)
  have AM : bits .and .i64 (qrt n + q) 3 = 2 := by rw [and_mask2]; exact hm
  clear a hR hm hn ho
  generalize metI (negI (sinS (resA n))) rng = z at *
  generalize resA n = r at *
  generalize turI (qrt n) = t at *
  obtain ⟨k0, k1⟩ := kq
  generalize qrt n = k at *
  generalize sinA n q = Y at *
  go_enter Tryz.func83, Tryz.ntmps83
  go_wp2_with fail
  refine (C.out _).mono ?_
  rintro e w1 ⟨rfl, hb1⟩
  have hs1 : _ ≤ w1.heap.size := hb1.size
  try simp at hs1
  rw [B.out]
  go_wp2_with fail
  refine (K.out _).mono ?_
  rintro e w2 ⟨rfl, hb2⟩
  have hs2 : _ ≤ w2.heap.size := hb2.size
  try simp at hs2
  go_wp2_with fail
  refine (l05At_any n _).mono ?_
  rintro e w3 ⟨rfl, hb3⟩
  have hs3 : _ ≤ w3.heap.size := hb3.size
  try simp at hs3
  go_wp2_with fail
  refine (T.out _).mono ?_
  rintro e w4 ⟨rfl, hb4⟩
  have hs4 : _ ≤ w4.heap.size := hb4.size
  try simp at hs4
  go_wp2_with fail
  refine (S.out _).mono ?_
  rintro e w5 ⟨rfl, hb5⟩
  have hs5 : _ ≤ w5.heap.size := hb5.size
  try simp at hs5
  have o_q50 : Own (w5) (w.heap.size) 0 (.int .i64 0) := (by repeat (first | (with_reducible assumption) | (with_reducible refine own_drew ?_) | (with_reducible refine own_drewN ?_) | (with_reducible refine own_kept (by assumption) ?_) | (refine ⟨?_, ?_⟩ <;> simp [go_sem]; done) | (with_reducible refine own_alloc ?_))); have q50 := o_q50.1; have f_q50 := o_q50.2; have o_q51 : Own (w5) (w.heap.size) 1 (.int .i64 0) := (by repeat (first | (with_reducible assumption) | (with_reducible refine own_drew ?_) | (with_reducible refine own_drewN ?_) | (with_reducible refine own_kept (by assumption) ?_) | (refine ⟨?_, ?_⟩ <;> simp [go_sem]; done) | (with_reducible refine own_alloc ?_))); have q51 := o_q51.1; have f_q51 := o_q51.2
  have zz5 : w.heap.size < w5.heap.size := World.block_lt_of_cell? _ _ q50; obtain ⟨zz5a, zz5b, zz5c, zz5d, zz5e, zz5f, zz5g, zz5h, zz5i⟩ := below_more zz5; have zn5 : ¬ w.heap.size = w5.heap.size := Nat.ne_of_lt zz5; have zm5 : ¬ w5.heap.size = w.heap.size := Nat.ne_of_gt zz5
  go_wp2_with fail
  refine (W.out _).mono ?_
  rintro e w6 ⟨rfl, hb6⟩
  have hs6 : _ ≤ w6.heap.size := hb6.size
  try simp at hs6
  have o_q60 : Own (w6) (w.heap.size) 0 (.int .i64 0) := (by repeat (first | (with_reducible assumption) | (with_reducible refine own_drew ?_) | (with_reducible refine own_drewN ?_) | (with_reducible refine own_kept (by assumption) ?_) | (refine ⟨?_, ?_⟩ <;> simp [go_sem]; done) | (with_reducible refine own_alloc ?_))); have q60 := o_q60.1; have f_q60 := o_q60.2; have o_q61 : Own (w6) (w.heap.size) 1 (.int .i64 0) := (by repeat (first | (with_reducible assumption) | (with_reducible refine own_drew ?_) | (with_reducible refine own_drewN ?_) | (with_reducible refine own_kept (by assumption) ?_) | (refine ⟨?_, ?_⟩ <;> simp [go_sem]; done) | (with_reducible refine own_alloc ?_))); have q61 := o_q61.1; have f_q61 := o_q61.2
  go_wp2_with fail
  refine (N.out _).mono ?_
  rintro e w7 ⟨rfl, hb7⟩
  have hs7 : _ ≤ w7.heap.size := hb7.size
  try simp at hs7
  have o_q70 : Own (w7) (w.heap.size) 0 (.int .i64 0) := (by repeat (first | (with_reducible assumption) | (with_reducible refine own_drew ?_) | (with_reducible refine own_drewN ?_) | (with_reducible refine own_kept (by assumption) ?_) | (refine ⟨?_, ?_⟩ <;> simp [go_sem]; done) | (with_reducible refine own_alloc ?_))); have q70 := o_q70.1; have f_q70 := o_q70.2; have o_q71 : Own (w7) (w.heap.size) 1 (.int .i64 0) := (by repeat (first | (with_reducible assumption) | (with_reducible refine own_drew ?_) | (with_reducible refine own_drewN ?_) | (with_reducible refine own_kept (by assumption) ?_) | (refine ⟨?_, ?_⟩ <;> simp [go_sem]; done) | (with_reducible refine own_alloc ?_))); have q71 := o_q71.1; have f_q71 := o_q71.2
  go_wp2_with fail
  refine (M.out _).mono ?_
  rintro e w8 ⟨rfl, hb8⟩
  have hs8 : _ ≤ w8.heap.size := hb8.size
  try simp at hs8
  have o_q80 : Own (w8) (w.heap.size) 0 (.int .i64 0) := (by repeat (first | (with_reducible assumption) | (with_reducible refine own_drew ?_) | (with_reducible refine own_drewN ?_) | (with_reducible refine own_kept (by assumption) ?_) | (refine ⟨?_, ?_⟩ <;> simp [go_sem]; done) | (with_reducible refine own_alloc ?_))); obtain ⟨q80, f_q80⟩ := o_q80; have o_q81 : Own (w8) (w.heap.size) 1 (.int .i64 0) := (by repeat (first | (with_reducible assumption) | (with_reducible refine own_drew ?_) | (with_reducible refine own_drewN ?_) | (with_reducible refine own_kept (by assumption) ?_) | (refine ⟨?_, ?_⟩ <;> simp [go_sem]; done) | (with_reducible refine own_alloc ?_))); obtain ⟨q81, f_q81⟩ := o_q81
  go_wp2
  exact bodyPost_ret (v := .agg #[.int .i64 (z).1, .int .i64 (z).2]) (by simp [results, Tryz.results83, go_sem, q80, q81]) rfl ⟨by rw [E.out], (by repeat (first | exact Below.refl _ _ | refine Below.drew ?_ | refine below_dn ?_ _ | refine Below.setCell ?_ (by first | omega | (simp; done) | (simp; omega)) _ | refine Below.alloc ?_ (by first | omega | (simp; done) | (simp; omega)) _ | refine Below.trans ?_ (Below.mono (by assumption) (by first | omega | (simp; done) | (simp; omega)))))⟩
theorem l06At_3 (n q : Int) (hn : In64 n) (q0 : 0 ≤ q) (q1 : q ≤ 1) (a : Ang n) (hm : (qrt n + q) % 4 = 3) (w : World) : Calls Tryz.prog 83 #[.int .i64 n, .int .i64 q] w fun e w' =>
    e = .returned (.agg #[.int .i64 (sinA n q).1, .int .i64 (sinA n q).2]) ∧ Below w.heap.size w w' := by
  have C := Lib.hid (fun w => l06Angle_any n w)
  have B := Lib.hid (show ang n = true from decide_eq_true a)
  have kq := qrt_in n
  have E := Lib.hid (show sinA n q = metI (negI (cosS (resA n))) rng by unfold sinA; rw [if_pos a, hm]; simp [quaS])
  have K := Lib.hid (fun w => sQuarterOf_any n hn w)
  have T := Lib.hid (fun w => sTurnI_any (qrt n) w)
  have S := Lib.hid (fun w => sSubI_any (n, n) (turI (qrt n)) w)
  have hR := Lib.hid (show subI (n, n) (turI (qrt n)) = resA n from rfl)
  rw [hR.out] at S
  have W := Lib.hid (fun w => sCosSeries_any (resA n) w)
  have N := Lib.hid (fun w => sNegI_any (cosS (resA n)) w)
  have ho : olpI (negI (cosS (resA n))) rng = true := by have := sinA_meets a 3; simpa [quaS] using this
  have M := Lib.hid (fun w => l06Meet_any (negI (cosS (resA n))) ho w)
  have AM : bits .and .i64 (qrt n + q) 3 = 3 := by rw [and_mask2]; exact hm
  clear a hR hm hn ho
  generalize metI (negI (cosS (resA n))) rng = z at *
  generalize resA n = r at *
  generalize turI (qrt n) = t at *
  obtain ⟨k0, k1⟩ := kq
  generalize qrt n = k at *
  generalize sinA n q = Y at *
  go_enter Tryz.func83, Tryz.ntmps83
  go_wp2_with fail
  refine (C.out _).mono ?_
  rintro e w1 ⟨rfl, hb1⟩
  have hs1 : _ ≤ w1.heap.size := hb1.size
  try simp at hs1
  rw [B.out]
  go_wp2_with fail
  refine (K.out _).mono ?_
  rintro e w2 ⟨rfl, hb2⟩
  have hs2 : _ ≤ w2.heap.size := hb2.size
  try simp at hs2
  go_wp2_with fail
  refine (l05At_any n _).mono ?_
  rintro e w3 ⟨rfl, hb3⟩
  have hs3 : _ ≤ w3.heap.size := hb3.size
  try simp at hs3
  go_wp2_with fail
  refine (T.out _).mono ?_
  rintro e w4 ⟨rfl, hb4⟩
  have hs4 : _ ≤ w4.heap.size := hb4.size
  try simp at hs4
  go_wp2_with fail
  refine (S.out _).mono ?_
  rintro e w5 ⟨rfl, hb5⟩
  have hs5 : _ ≤ w5.heap.size := hb5.size
  try simp at hs5
  have o_q50 : Own (w5) (w.heap.size) 0 (.int .i64 0) := (by repeat (first | (with_reducible assumption) | (with_reducible refine own_drew ?_) | (with_reducible refine own_drewN ?_) | (with_reducible refine own_kept (by assumption) ?_) | (refine ⟨?_, ?_⟩ <;> simp [go_sem]; done) | (with_reducible refine own_alloc ?_))); have q50 := o_q50.1; have f_q50 := o_q50.2; have o_q51 : Own (w5) (w.heap.size) 1 (.int .i64 0) := (by repeat (first | (with_reducible assumption) | (with_reducible refine own_drew ?_) | (with_reducible refine own_drewN ?_) | (with_reducible refine own_kept (by assumption) ?_) | (refine ⟨?_, ?_⟩ <;> simp [go_sem]; done) | (with_reducible refine own_alloc ?_))); have q51 := o_q51.1; have f_q51 := o_q51.2
  have zz5 : w.heap.size < w5.heap.size := World.block_lt_of_cell? _ _ q50; obtain ⟨zz5a, zz5b, zz5c, zz5d, zz5e, zz5f, zz5g, zz5h, zz5i⟩ := below_more zz5; have zn5 : ¬ w.heap.size = w5.heap.size := Nat.ne_of_lt zz5; have zm5 : ¬ w5.heap.size = w.heap.size := Nat.ne_of_gt zz5
  go_wp2_with fail
  refine (W.out _).mono ?_
  rintro e w6 ⟨rfl, hb6⟩
  have hs6 : _ ≤ w6.heap.size := hb6.size
  try simp at hs6
  have o_q60 : Own (w6) (w.heap.size) 0 (.int .i64 0) := (by repeat (first | (with_reducible assumption) | (with_reducible refine own_drew ?_) | (with_reducible refine own_drewN ?_) | (with_reducible refine own_kept (by assumption) ?_) | (refine ⟨?_, ?_⟩ <;> simp [go_sem]; done) | (with_reducible refine own_alloc ?_))); have q60 := o_q60.1; have f_q60 := o_q60.2; have o_q61 : Own (w6) (w.heap.size) 1 (.int .i64 0) := (by repeat (first | (with_reducible assumption) | (with_reducible refine own_drew ?_) | (with_reducible refine own_drewN ?_) | (with_reducible refine own_kept (by assumption) ?_) | (refine ⟨?_, ?_⟩ <;> simp [go_sem]; done) | (with_reducible refine own_alloc ?_))); have q61 := o_q61.1; have f_q61 := o_q61.2
  go_wp2_with fail
  refine (N.out _).mono ?_
  rintro e w7 ⟨rfl, hb7⟩
  have hs7 : _ ≤ w7.heap.size := hb7.size
  try simp at hs7
  have o_q70 : Own (w7) (w.heap.size) 0 (.int .i64 0) := (by repeat (first | (with_reducible assumption) | (with_reducible refine own_drew ?_) | (with_reducible refine own_drewN ?_) | (with_reducible refine own_kept (by assumption) ?_) | (refine ⟨?_, ?_⟩ <;> simp [go_sem]; done) | (with_reducible refine own_alloc ?_))); have q70 := o_q70.1; have f_q70 := o_q70.2; have o_q71 : Own (w7) (w.heap.size) 1 (.int .i64 0) := (by repeat (first | (with_reducible assumption) | (with_reducible refine own_drew ?_) | (with_reducible refine own_drewN ?_) | (with_reducible refine own_kept (by assumption) ?_) | (refine ⟨?_, ?_⟩ <;> simp [go_sem]; done) | (with_reducible refine own_alloc ?_))); have q71 := o_q71.1; have f_q71 := o_q71.2
  go_wp2_with fail
  refine (M.out _).mono ?_
  rintro e w8 ⟨rfl, hb8⟩
  have hs8 : _ ≤ w8.heap.size := hb8.size
  try simp at hs8
  have o_q80 : Own (w8) (w.heap.size) 0 (.int .i64 0) := (by repeat (first | (with_reducible assumption) | (with_reducible refine own_drew ?_) | (with_reducible refine own_drewN ?_) | (with_reducible refine own_kept (by assumption) ?_) | (refine ⟨?_, ?_⟩ <;> simp [go_sem]; done) | (with_reducible refine own_alloc ?_))); obtain ⟨q80, f_q80⟩ := o_q80; have o_q81 : Own (w8) (w.heap.size) 1 (.int .i64 0) := (by repeat (first | (with_reducible assumption) | (with_reducible refine own_drew ?_) | (with_reducible refine own_drewN ?_) | (with_reducible refine own_kept (by assumption) ?_) | (refine ⟨?_, ?_⟩ <;> simp [go_sem]; done) | (with_reducible refine own_alloc ?_))); obtain ⟨q81, f_q81⟩ := o_q81
  go_wp2
  exact bodyPost_ret (v := .agg #[.int .i64 (z).1, .int .i64 (z).2]) (by simp [results, Tryz.results83, go_sem, q80, q81]) rfl ⟨by rw [E.out], (by repeat (first | exact Below.refl _ _ | refine Below.drew ?_ | refine below_dn ?_ _ | refine Below.setCell ?_ (by first | omega | (simp; done) | (simp; omega)) _ | refine Below.alloc ?_ (by first | omega | (simp; done) | (simp; omega)) _ | refine Below.trans ?_ (Below.mono (by assumption) (by first | omega | (simp; done) | (simp; omega)))))⟩
theorem l06At_any (n q : Int) (hn : In64 n) (q0 : 0 ≤ q) (q1 : q ≤ 1) (w : World) : Calls Tryz.prog 83 #[.int .i64 n, .int .i64 q] w fun e w' =>
    e = .returned (.agg #[.int .i64 (sinA n q).1, .int .i64 (sinA n q).2]) ∧ Below w.heap.size w w' := by
  by_cases a : Ang n
  · have m : (qrt n + q) % 4 = 0 ∨ (qrt n + q) % 4 = 1 ∨ (qrt n + q) % 4 = 2 ∨ (qrt n + q) % 4 = 3 := by omega
    rcases m with m | m | m | m
    · exact l06At_0 n q hn q0 q1 a m w
    · exact l06At_1 n q hn q0 q1 a m w
    · exact l06At_2 n q hn q0 q1 a m w
    · exact l06At_3 n q hn q0 q1 a m w
  · exact l06At_no n q a w
theorem sSinAt_any (n : Int) (hn : In64 n) (w : World) : Calls Tryz.prog 34 #[.int .i64 n] w fun e w' =>
    e = .returned (.agg #[.int .i64 (sinA n 0).1, .int .i64 (sinA n 0).2]) ∧ Below w.heap.size w w' := by
  have S := Lib.hid (fun w => l06At_any n 0 hn (by omega) (by omega) w)
  generalize sinA n 0 = r at *
  go_enter Tryz.func34, Tryz.ntmps34
  go_wp2_with fail
  refine (S.out _).mono ?_
  rintro e w1 ⟨rfl, hb1⟩
  have hs1 : _ ≤ w1.heap.size := hb1.size
  try simp at hs1
  have o_qr10 : Own (w1) (w.heap.size) 0 (.int .i64 0) := (by repeat (first | (with_reducible assumption) | (with_reducible refine own_drew ?_) | (with_reducible refine own_drewN ?_) | (with_reducible refine own_kept (by assumption) ?_) | (refine ⟨?_, ?_⟩ <;> simp [go_sem]; done) | (with_reducible refine own_alloc ?_))); obtain ⟨qr10, f_qr10⟩ := o_qr10; have o_qr11 : Own (w1) (w.heap.size) 1 (.int .i64 0) := (by repeat (first | (with_reducible assumption) | (with_reducible refine own_drew ?_) | (with_reducible refine own_drewN ?_) | (with_reducible refine own_kept (by assumption) ?_) | (refine ⟨?_, ?_⟩ <;> simp [go_sem]; done) | (with_reducible refine own_alloc ?_))); obtain ⟨qr11, f_qr11⟩ := o_qr11
  go_wp2
  exact bodyPost_ret (v := .agg #[.int .i64 (r).1, .int .i64 (r).2]) (by simp [results, Tryz.results34, go_sem, qr10, qr11]) rfl ⟨rfl, (by repeat (first | exact Below.refl _ _ | refine Below.drew ?_ | refine below_dn ?_ _ | refine Below.setCell ?_ (by first | omega | (simp; done) | (simp; omega)) _ | refine Below.alloc ?_ (by first | omega | (simp; done) | (simp; omega)) _ | refine Below.trans ?_ (Below.mono (by assumption) (by first | omega | (simp; done) | (simp; omega)))))⟩
theorem sCosAt_any (n : Int) (hn : In64 n) (w : World) : Calls Tryz.prog 36 #[.int .i64 n] w fun e w' =>
    e = .returned (.agg #[.int .i64 (sinA n 1).1, .int .i64 (sinA n 1).2]) ∧ Below w.heap.size w w' := by
  have S := Lib.hid (fun w => l06At_any n 1 hn (by omega) (by omega) w)
  generalize sinA n 1 = r at *
  go_enter Tryz.func36, Tryz.ntmps36
  go_wp2_with fail
  refine (S.out _).mono ?_
  rintro e w1 ⟨rfl, hb1⟩
  have hs1 : _ ≤ w1.heap.size := hb1.size
  try simp at hs1
  have o_qr10 : Own (w1) (w.heap.size) 0 (.int .i64 0) := (by repeat (first | (with_reducible assumption) | (with_reducible refine own_drew ?_) | (with_reducible refine own_drewN ?_) | (with_reducible refine own_kept (by assumption) ?_) | (refine ⟨?_, ?_⟩ <;> simp [go_sem]; done) | (with_reducible refine own_alloc ?_))); obtain ⟨qr10, f_qr10⟩ := o_qr10; have o_qr11 : Own (w1) (w.heap.size) 1 (.int .i64 0) := (by repeat (first | (with_reducible assumption) | (with_reducible refine own_drew ?_) | (with_reducible refine own_drewN ?_) | (with_reducible refine own_kept (by assumption) ?_) | (refine ⟨?_, ?_⟩ <;> simp [go_sem]; done) | (with_reducible refine own_alloc ?_))); obtain ⟨qr11, f_qr11⟩ := o_qr11
  go_wp2
  exact bodyPost_ret (v := .agg #[.int .i64 (r).1, .int .i64 (r).2]) (by simp [results, Tryz.results36, go_sem, qr10, qr11]) rfl ⟨rfl, (by repeat (first | exact Below.refl _ _ | refine Below.drew ?_ | refine below_dn ?_ _ | refine Below.setCell ?_ (by first | omega | (simp; done) | (simp; omega)) _ | refine Below.alloc ?_ (by first | omega | (simp; done) | (simp; omega)) _ | refine Below.trans ?_ (Below.mono (by assumption) (by first | omega | (simp; done) | (simp; omega)))))⟩
end Go.Proofs.YtnhpacaidcjaoaaGreatDoor
namespace Go.Proofs.YtnhpacaidcjaoaaGreatDoor
open Go.ChangeShapes Go.WideShapes Go.ChangeAt Go.RowKit
set_option linter.unusedVariables false
set_option maxRecDepth 100000
set_option linter.unusedSimpArgs false
set_option maxHeartbeats 1000000
theorem law_SinAt (n : Int) (hn : In64 n) (w : World) (hg : Glo w) : Calls Tryz.prog 12 #[.int .i64 n] w fun e w' =>
    e = .returned (.bool true) ∧ Below w.heap.size w w' := by
  have SP := Lib.hid (fun w => sSinAt_any n hn w)
  have IM := Lib.hid (fun w hg => SinAt_any n hn w hg)
  generalize sinA n 0 = r at *
  go_enter Tryz.func12, Tryz.ntmps12
  go_wp2_with fail
  refine (SP.out _).mono ?_
  rintro e w1 ⟨rfl, hb1⟩
  have hs1 : _ ≤ w1.heap.size := hb1.size
  try simp at hs1
  go_wp2_with fail
  refine (IM.out _ (by repeat (first | (with_reducible assumption) | (with_reducible refine Glo.drew ?_) | (with_reducible refine Glo.kept ?_ (by assumption)) | (with_reducible refine Glo.alloc ?_ _)))).mono ?_
  rintro e w2 ⟨rfl, hb2⟩
  have hs2 : _ ≤ w2.heap.size := hb2.size
  try simp at hs2
  have o_g20 : Own (w2) (w1.heap.size) 0 (.int .i64 r.1) := (by repeat (first | (with_reducible assumption) | (with_reducible refine own_drew ?_) | (with_reducible refine own_drewN ?_) | (with_reducible refine own_kept (by assumption) ?_) | (refine ⟨?_, ?_⟩ <;> simp [go_sem]; done) | (with_reducible refine own_alloc ?_))); obtain ⟨g20, f_g20⟩ := o_g20; have o_g21 : Own (w2) (w1.heap.size) 1 (.int .i64 r.2) := (by repeat (first | (with_reducible assumption) | (with_reducible refine own_drew ?_) | (with_reducible refine own_drewN ?_) | (with_reducible refine own_kept (by assumption) ?_) | (refine ⟨?_, ?_⟩ <;> simp [go_sem]; done) | (with_reducible refine own_alloc ?_))); obtain ⟨g21, f_g21⟩ := o_g21
  have lg2 : w1.heap.size < w2.heap.size := World.block_lt_of_cell? _ _ g20
  have ng2 : ¬ w1.heap.size = w2.heap.size := Nat.ne_of_lt lg2
  have mg2 : ¬ w2.heap.size = w1.heap.size := Nat.ne_of_gt lg2
  go_wp2_with fail
  refine (eqInterval_same _ _ _).mono ?_
  rintro e w3 ⟨rfl, hb3⟩
  have hs3 : _ ≤ w3.heap.size := hb3.size
  try simp at hs3
  go_wp2
  go_ret
  exact ⟨rfl, (by repeat (first | exact Below.refl _ _ | refine Below.drew ?_ | refine below_dn ?_ _ | refine Below.setCell ?_ (by first | omega | (simp; done) | (simp; omega)) _ | refine Below.alloc ?_ (by first | omega | (simp; done) | (simp; omega)) _ | refine Below.trans ?_ (Below.mono (by assumption) (by first | omega | (simp; done) | (simp; omega)))))⟩
theorem law_CosAt (n : Int) (hn : In64 n) (w : World) (hg : Glo w) : Calls Tryz.prog 13 #[.int .i64 n] w fun e w' =>
    e = .returned (.bool true) ∧ Below w.heap.size w w' := by
  have SP := Lib.hid (fun w => sCosAt_any n hn w)
  have IM := Lib.hid (fun w hg => CosAt_any n hn w hg)
  generalize sinA n 1 = r at *
  go_enter Tryz.func13, Tryz.ntmps13
  go_wp2_with fail
  refine (SP.out _).mono ?_
  rintro e w1 ⟨rfl, hb1⟩
  have hs1 : _ ≤ w1.heap.size := hb1.size
  try simp at hs1
  go_wp2_with fail
  refine (IM.out _ (by repeat (first | (with_reducible assumption) | (with_reducible refine Glo.drew ?_) | (with_reducible refine Glo.kept ?_ (by assumption)) | (with_reducible refine Glo.alloc ?_ _)))).mono ?_
  rintro e w2 ⟨rfl, hb2⟩
  have hs2 : _ ≤ w2.heap.size := hb2.size
  try simp at hs2
  have o_g20 : Own (w2) (w1.heap.size) 0 (.int .i64 r.1) := (by repeat (first | (with_reducible assumption) | (with_reducible refine own_drew ?_) | (with_reducible refine own_drewN ?_) | (with_reducible refine own_kept (by assumption) ?_) | (refine ⟨?_, ?_⟩ <;> simp [go_sem]; done) | (with_reducible refine own_alloc ?_))); obtain ⟨g20, f_g20⟩ := o_g20; have o_g21 : Own (w2) (w1.heap.size) 1 (.int .i64 r.2) := (by repeat (first | (with_reducible assumption) | (with_reducible refine own_drew ?_) | (with_reducible refine own_drewN ?_) | (with_reducible refine own_kept (by assumption) ?_) | (refine ⟨?_, ?_⟩ <;> simp [go_sem]; done) | (with_reducible refine own_alloc ?_))); obtain ⟨g21, f_g21⟩ := o_g21
  have lg2 : w1.heap.size < w2.heap.size := World.block_lt_of_cell? _ _ g20
  have ng2 : ¬ w1.heap.size = w2.heap.size := Nat.ne_of_lt lg2
  have mg2 : ¬ w2.heap.size = w1.heap.size := Nat.ne_of_gt lg2
  go_wp2_with fail
  refine (eqInterval_same _ _ _).mono ?_
  rintro e w3 ⟨rfl, hb3⟩
  have hs3 : _ ≤ w3.heap.size := hb3.size
  try simp at hs3
  go_wp2
  go_ret
  exact ⟨rfl, (by repeat (first | exact Below.refl _ _ | refine Below.drew ?_ | refine below_dn ?_ _ | refine Below.setCell ?_ (by first | omega | (simp; done) | (simp; omega)) _ | refine Below.alloc ?_ (by first | omega | (simp; done) | (simp; omega)) _ | refine Below.trans ?_ (Below.mono (by assumption) (by first | omega | (simp; done) | (simp; omega)))))⟩
end Go.Proofs.YtnhpacaidcjaoaaGreatDoor
