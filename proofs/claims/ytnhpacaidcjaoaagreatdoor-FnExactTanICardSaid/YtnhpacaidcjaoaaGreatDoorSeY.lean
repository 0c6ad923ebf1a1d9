/- Short forms: own cells, what lies behind, cells that are kept: each with its own way of being shown. Conditions: as each lemma says. Contracts of the sine and the cosine of a number in the program. Conditions: numbers are int64; the program's two intervals are laid. Contracts of the sine of a number in the program, by its quarter turn. Conditions: numbers are int64; the program's two intervals are laid. Contracts of the sine of a number in the program, by its quarter turn. Conditions: numbers are int64; the program's two intervals are laid. Contracts of SinAt and CosAt in the program. Conditions: numbers are int64; the program's two intervals are laid. Contracts of SinAt and CosAt in the model. Conditions: numbers are int64. Contracts of hasAngles and tangentAt, program and model. Conditions: numbers are int64; the program's two intervals are laid. Plain arithmetic of the quarter turns about an interval of angles. Conditions: as each lemma says. Numbers of the sines and tangents of intervals: the quarter turns that touch an interval, in their order, and what each adds. No conditions. -/
import Derived.Test.YtnhpacaidcjaoaaGreatDoorSeB
import Derived.Test.YtnhpacaidcjaoaaGreatDoorMinMax
import Derived.Outline
import Derived.Test.YtnhpacaidcjaoaaGreatDoorTrA
import Derived.Test.YtnhpacaidcjaoaaGreatDoorTrD
import Derived.Test.YtnhpacaidcjaoaaGreatDoorNumU
import Derived.Test.YtnhpacaidcjaoaaGreatDoorIvU
import Derived.Deep.RegionHeld3
import Derived.Test.YtnhpacaidcjaoaaGreatDoorIvV
import Derived.Test.YtnhpacaidcjaoaaGreatDoorIvA
import Derived.Test.YtnhpacaidcjaoaaGreatDoorAnyS
namespace Go.Proofs.YtnhpacaidcjaoaaGreatDoor
open Go.ChangeShapes Go.WideShapes Go.ChangeAt Go.RowKit
set_option linter.unusedVariables false
set_option maxRecDepth 100000
set_option linter.unusedSimpArgs false
set_option maxHeartbeats 1000000
theorem ownJ {w : World} {b o : Nat} {v : Value} (h : Own w b o v := by repeat (first | (with_reducible assumption) | (with_reducible refine own_drew ?_) | (with_reducible refine own_drewN ?_) | (with_reducible refine own_kept (by assumption) ?_) | (refine ⟨?_, ?_⟩ <;> simp [go_sem]; done) | (with_reducible refine own_alloc ?_))) : Own w b o v := h
theorem belB {B : Nat} {a w : World} (h : Below B a w := by repeat (first | exact Below.refl _ _ | refine Below.drew ?_ | refine below_dn ?_ _ | refine Below.setCell ?_ (by first | omega | (simp; done) | (simp; omega)) _ | refine Below.alloc ?_ (by first | omega | (simp; done) | (simp; omega)) _ | refine Below.trans ?_ (Below.mono (by assumption) (by first | omega | (simp; done) | (simp; omega))))) : Below B a w := h
theorem celK {w : World} {a : Addr} {v : Value} (h : w.cell? a = some v := by repeat (first | (with_reducible assumption) | (with_reducible refine cell_far (by first | (simp; done) | (simp; omega)) ?_) | (with_reducible refine cell_drew ?_) | (with_reducible refine cell_drewN ?_) | (with_reducible refine cell_kept (by assumption) ?_) | (simp [go_sem]; done) | (with_reducible refine cell_alloc ?_))) : w.cell? a = some v := h
end Go.Proofs.YtnhpacaidcjaoaaGreatDoor
namespace Go.Proofs.YtnhpacaidcjaoaaGreatDoor
open Go.ChangeShapes Go.WideShapes Go.ChangeAt Go.RowKit
set_option linter.unusedVariables false
set_option maxRecDepth 100000
set_option linter.unusedSimpArgs false
set_option maxHeartbeats 1000000
theorem opposite_Sin (w : World) : Calls Tryz.prog 128 #[.func (Fn.func 126) #[] #[]] w fun e w' =>
    e = .returned (.func (Fn.func 161) #[] #[.pointer (some ⟨w.heap.size, 0, none⟩)]) ∧ w.alloc (.cells #[.func (Fn.func 126) #[] #[]] 67) = w' := by
  have hmf : ∀ (fn : Fn) (first cap : Array Value) (w : World), (Instr.makeFunc fn first cap).run Tryz.prog w = .ok (.func fn first cap) w := fun _ _ _ _ => rfl
  go_enter Tryz.func128, Tryz.ntmps128
  go_wp2
  go_ret
  exact ⟨rfl, rfl⟩
theorem oppLit_Sin (x : Iv) (hx : Ok x) (b : Nat) (w : World) (hg : Glo w) (hc : w.cell? ⟨b, 0, none⟩ = some (.func (Fn.func 126) #[] #[])) : Calls Tryz.prog 161 #[.agg #[.int .i64 x.1, .int .i64 x.2], .pointer (some ⟨b, 0, none⟩)] w fun e w' =>
    e = .returned (.agg #[.int .i64 (negI (sinS x)).1, .int .i64 (negI (sinS x)).2]) ∧ Below w.heap.size w w' := by
  have lb : b < w.heap.size := World.block_lt_of_cell? _ _ hc
  have S := Lib.hid (fun w hg => SinSeries_any x hx w hg)
  have N := Lib.hid (fun w => NegI_any (sinS x) w)
  obtain ⟨g0, g1, g2, g3⟩ := id hg
  generalize negI (sinS x) = z at *
  generalize sinS x = s at *
  go_enter Tryz.func161, Tryz.ntmps161
  go_wp2_with fail
  refine (S.out _ ((hg.alloc _).alloc _)).mono ?_
  rintro e w1 ⟨rfl, hb1⟩
  have hs1 : _ ≤ w1.heap.size := hb1.size
  try simp at hs1
  have o_r10 : Own (w1) (w.heap.size + 1) 0 (.int .i64 0) := ownJ; have r10 := o_r10.1; have f_r10 := o_r10.2; have o_r11 : Own (w1) (w.heap.size + 1) 1 (.int .i64 0) := ownJ; have r11 := o_r11.1; have f_r11 := o_r11.2
  go_wp2_with fail
  refine (N.out _).mono ?_
  rintro e w2 ⟨rfl, hb2⟩
  have hs2 : _ ≤ w2.heap.size := hb2.size
  try simp at hs2
  have o_r20 : Own (w2) (w.heap.size + 1) 0 (.int .i64 0) := ownJ; obtain ⟨r20, f_r20⟩ := o_r20; have o_r21 : Own (w2) (w.heap.size + 1) 1 (.int .i64 0) := ownJ; obtain ⟨r21, f_r21⟩ := o_r21
  go_wp2
  exact bodyPost_ret (v := .agg #[.int .i64 (z).1, .int .i64 (z).2]) (by simp [results, Tryz.results161, go_sem, r20, r21]) rfl ⟨rfl, belB⟩
theorem opposite_Cos (w : World) : Calls Tryz.prog 128 #[.func (Fn.func 127) #[] #[]] w fun e w' =>
    e = .returned (.func (Fn.func 161) #[] #[.pointer (some ⟨w.heap.size, 0, none⟩)]) ∧ w.alloc (.cells #[.func (Fn.func 127) #[] #[]] 67) = w' := by
  have hmf : ∀ (fn : Fn) (first cap : Array Value) (w : World), (Instr.makeFunc fn first cap).run Tryz.prog w = .ok (.func fn first cap) w := fun _ _ _ _ => rfl
  go_enter Tryz.func128, Tryz.ntmps128
  go_wp2
  go_ret
  exact ⟨rfl, rfl⟩
theorem oppLit_Cos (x : Iv) (hx : Ok x) (b : Nat) (w : World) (hg : Glo w) (hc : w.cell? ⟨b, 0, none⟩ = some (.func (Fn.func 127) #[] #[])) : Calls Tryz.prog 161 #[.agg #[.int .i64 x.1, .int .i64 x.2], .pointer (some ⟨b, 0, none⟩)] w fun e w' =>
    e = .returned (.agg #[.int .i64 (negI (cosS x)).1, .int .i64 (negI (cosS x)).2]) ∧ Below w.heap.size w w' := by
  have lb : b < w.heap.size := World.block_lt_of_cell? _ _ hc
  have S := Lib.hid (fun w hg => CosSeries_any x hx w hg)
  have N := Lib.hid (fun w => NegI_any (cosS x) w)
  obtain ⟨g0, g1, g2, g3⟩ := id hg
  generalize negI (cosS x) = z at *
  generalize cosS x = s at *
  go_enter Tryz.func161, Tryz.ntmps161
  go_wp2_with fail
  refine (S.out _ ((hg.alloc _).alloc _)).mono ?_
  rintro e w1 ⟨rfl, hb1⟩
  have hs1 : _ ≤ w1.heap.size := hb1.size
  try simp at hs1
  have o_r10 : Own (w1) (w.heap.size + 1) 0 (.int .i64 0) := ownJ; have r10 := o_r10.1; have f_r10 := o_r10.2; have o_r11 : Own (w1) (w.heap.size + 1) 1 (.int .i64 0) := ownJ; have r11 := o_r11.1; have f_r11 := o_r11.2
  go_wp2_with fail
  refine (N.out _).mono ?_
  rintro e w2 ⟨rfl, hb2⟩
  have hs2 : _ ≤ w2.heap.size := hb2.size
  try simp at hs2
  have o_r20 : Own (w2) (w.heap.size + 1) 0 (.int .i64 0) := ownJ; obtain ⟨r20, f_r20⟩ := o_r20; have o_r21 : Own (w2) (w.heap.size + 1) 1 (.int .i64 0) := ownJ; obtain ⟨r21, f_r21⟩ := o_r21
  go_wp2
  exact bodyPost_ret (v := .agg #[.int .i64 (z).1, .int .i64 (z).2]) (by simp [results, Tryz.results161, go_sem, r20, r21]) rfl ⟨rfl, belB⟩
theorem single_any (n : Int) (w : World) : Calls Tryz.prog 47 #[.int .i64 n] w fun e w' =>
    e = .returned (.agg #[.int .i64 n, .int .i64 n]) ∧ Below w.heap.size w w' := by
  go_enter Tryz.func47, Tryz.ntmps47
  go_wp2
  exact bodyPost_ret (v := .agg #[.int .i64 n, .int .i64 n]) (by simp [results, Tryz.results47, go_sem]) rfl ⟨rfl, belB⟩
theorem atQuarter0 (f0 f1 f2 f3 : Value) (k : Int) (h : k % 4 = 0) (w : World) : Calls Tryz.prog 125 #[.agg #[f0, f1, f2, f3], .int .i64 k] w fun e w' =>
    e = .returned (f0) ∧ Below w.heap.size w w' := by
  have A : bits .and .i64 k 3 = 0 := by rw [and_mask2]; exact h
  go_enter Tryz.func125, Tryz.ntmps125
  go_wp2
  go_ret
  exact ⟨rfl, belB⟩
theorem atQuarter1 (f0 f1 f2 f3 : Value) (k : Int) (h : k % 4 = 1) (w : World) : Calls Tryz.prog 125 #[.agg #[f0, f1, f2, f3], .int .i64 k] w fun e w' =>
    e = .returned (f1) ∧ Below w.heap.size w w' := by
  have A : bits .and .i64 k 3 = 1 := by rw [and_mask2]; exact h
  go_enter Tryz.func125, Tryz.ntmps125
  go_wp2
  go_ret
  exact ⟨rfl, belB⟩
theorem atQuarter2 (f0 f1 f2 f3 : Value) (k : Int) (h : k % 4 = 2) (w : World) : Calls Tryz.prog 125 #[.agg #[f0, f1, f2, f3], .int .i64 k] w fun e w' =>
    e = .returned (f2) ∧ Below w.heap.size w w' := by
  have A : bits .and .i64 k 3 = 2 := by rw [and_mask2]; exact h
  go_enter Tryz.func125, Tryz.ntmps125
  go_wp2
  go_ret
  exact ⟨rfl, belB⟩
theorem atQuarter3 (f0 f1 f2 f3 : Value) (k : Int) (h : k % 4 = 3) (w : World) : Calls Tryz.prog 125 #[.agg #[f0, f1, f2, f3], .int .i64 k] w fun e w' =>
    e = .returned (f3) ∧ Below w.heap.size w w' := by
  have A : bits .and .i64 k 3 = 3 := by rw [and_mask2]; exact h
  go_enter Tryz.func125, Tryz.ntmps125
  go_wp2
  go_ret
  exact ⟨rfl, belB⟩
end Go.Proofs.YtnhpacaidcjaoaaGreatDoor
namespace Go.Proofs.YtnhpacaidcjaoaaGreatDoor
open Go.ChangeShapes Go.WideShapes Go.ChangeAt Go.RowKit
set_option linter.unusedVariables false
set_option maxRecDepth 100000
set_option linter.unusedSimpArgs false
set_option maxHeartbeats 1000000
theorem sineAt_no (n q : Int) (a : ¬ Ang n) (w : World) (hg : Glo w) : Calls Tryz.prog 84 #[.int .i64 n, .int .i64 q] w fun e w' =>
    e = .returned (.agg #[.int .i64 (sinA n q).1, .int .i64 (sinA n q).2]) ∧ Below w.heap.size w w' := by
  obtain ⟨g0, g1, g2, g3⟩ := hg
  have C := Lib.hid (fun w => isAngle_any n w)
  have B := Lib.hid (show ang n = false from decide_eq_false a)
  have E := Lib.hid (show sinA n q = rng from if_neg a)
  clear a
  go_enter Tryz.func84, Tryz.ntmps84
  go_wp2_with fail
  refine (C.out _).mono ?_
  rintro e w1 ⟨rfl, hb1⟩
  have hs1 : _ ≤ w1.heap.size := hb1.size
  try simp at hs1
  rw [B.out]
  have o_r10 : Own (w1) (w.heap.size) 0 (.int .i64 0) := ownJ; have r10 := o_r10.1; have f_r10 := o_r10.2; have o_r11 : Own (w1) (w.heap.size) 1 (.int .i64 0) := ownJ; have r11 := o_r11.1; have f_r11 := o_r11.2
  have g1a : w1.cell? ⟨0, 0, none⟩ = some (.int .i64 (-4294967296)) := celK
  have g1b : w1.cell? ⟨0, 1, none⟩ = some (.int .i64 4294967296) := celK
  have g1c : w1.cell? ⟨1, 0, none⟩ = some (.int .i64 (-1)) := celK
  have g1d : w1.cell? ⟨1, 1, none⟩ = some (.int .i64 1) := celK
  go_wp2
  exact bodyPost_ret (v := .agg #[.int .i64 (-4294967296), .int .i64 4294967296]) (by simp [results, Tryz.results84, go_sem, r10, r11]) rfl ⟨(by first | (rw [E.out]; done) | (rw [E.out]; rfl) | (simp [E.out]; done)), belB⟩
set_option maxHeartbeats 4000000 in
theorem sineAt_0 (n q : Int) (hn : In64 n) (q0 : 0 ≤ q) (q1 : q ≤ 1) (a : Ang n) (hm : (qrt n + q) % 4 = 0) (w : World) (hg : Glo w) : Calls Tryz.prog 84 #[.int .i64 n, .int .i64 q] w fun e w' =>
    e = .returned (.agg #[.int .i64 (sinA n q).1, .int .i64 (sinA n q).2]) ∧ Below w.heap.size w w' := by
  have hg' := hg
  obtain ⟨g0, g1, g2, g3⟩ := hg'
  clear hg
  have C := Lib.hid (fun w => isAngle_any n w)
  have B := Lib.hid (show ang n = true from decide_eq_true a)
  have kq := qrt_in n
  have E := Lib.hid (show sinA n q = metI (sinS (resA n)) rng by unfold sinA; rw [if_pos a, hm]; simp [quaS])
  have K := Lib.hid (fun w => QuarterOf_any n hn w)
  have T := Lib.hid (fun w => TurnI_any (qrt n) w)
  have S := Lib.hid (fun w => SubI_any (n, n) (turI (qrt n)) w)
  have hr := Lib.hid (show Ok (resA n) from res_ok (sub_res _ _))
  have hR := Lib.hid (show subI (n, n) (turI (qrt n)) = resA n from rfl)
  rw [hR.out] at S
  have A := Lib.hid (fun f0 f1 f2 f3 w => atQuarter0 f0 f1 f2 f3 (qrt n + q) hm w)
  have M := Lib.hid (fun z w => MeetI_any z rng w)
  clear a hR hm hn
  generalize resA n = r at *
  generalize turI (qrt n) = t at *
  obtain ⟨k0, k1⟩ := kq
  generalize qrt n = k at *
  generalize sinA n q = Y at *
  go_enter Tryz.func84, Tryz.ntmps84
  go_wp2_with fail
  refine (C.out _).mono ?_
  rintro e w1 ⟨rfl, hb1⟩
  have hs1 : _ ≤ w1.heap.size := hb1.size
  try simp at hs1
  rw [B.out]
  go_wp2_with fail
  refine (K.out _).mono ?_
  rintro e w2 ⟨rfl, hb2⟩
  have hs2 : _ ≤ w2.heap.size := hb2.size
  try simp at hs2
  go_wp2_with fail
  refine (single_any n _).mono ?_
  rintro e w8 ⟨rfl, hb8⟩
  have hs8 : _ ≤ w8.heap.size := hb8.size
  try simp at hs8
  go_wp2_with fail
  refine (T.out _).mono ?_
  rintro e w3 ⟨rfl, hb3⟩
  have hs3 : _ ≤ w3.heap.size := hb3.size
  try simp at hs3
  go_wp2_with fail
  refine (S.out _).mono ?_
  rintro e w4 ⟨rfl, hb4⟩
  have hs4 : _ ≤ w4.heap.size := hb4.size
  try simp at hs4
  have o_q40 : Own (w4) (w.heap.size) 0 (.int .i64 0) := ownJ; have q40 := o_q40.1; have f_q40 := o_q40.2; have o_q41 : Own (w4) (w.heap.size) 1 (.int .i64 0) := ownJ; have q41 := o_q41.1; have f_q41 := o_q41.2
  have zz4 : w.heap.size < w4.heap.size := World.block_lt_of_cell? _ _ q40; obtain ⟨zz4a, zz4b, zz4c, zz4d, zz4e, zz4f, zz4g, zz4h, zz4i⟩ := below_more zz4; have zn4 : ¬ w.heap.size = w4.heap.size := Nat.ne_of_lt zz4; have zm4 : ¬ w4.heap.size = w.heap.size := Nat.ne_of_gt zz4
  have g4a : w4.cell? ⟨0, 0, none⟩ = some (.int .i64 (-4294967296)) := celK
  have g4b : w4.cell? ⟨0, 1, none⟩ = some (.int .i64 4294967296) := celK
  have g4c : w4.cell? ⟨1, 0, none⟩ = some (.int .i64 (-1)) := celK
  have g4d : w4.cell? ⟨1, 1, none⟩ = some (.int .i64 1) := celK
  go_wp2_with fail
  refine (opposite_Sin _).mono ?_
  rintro e w5 ⟨rfl, hw5⟩
  subst hw5
  go_wp2_with fail
  refine (opposite_Cos _).mono ?_
  rintro e w6 ⟨rfl, hw6⟩
  subst hw6
  go_wp2_with fail
  refine (A.out _ _ _ _ _).mono ?_
  rintro e w7 ⟨rfl, hb7⟩
  have hs7 : _ ≤ w7.heap.size := hb7.size
  try simp at hs7
  have o_q70 : Own (w7) (w.heap.size) 0 (.int .i64 0) := ownJ; have q70 := o_q70.1; have f_q70 := o_q70.2; have o_q71 : Own (w7) (w.heap.size) 1 (.int .i64 0) := ownJ; have q71 := o_q71.1; have f_q71 := o_q71.2
  have o_x70 : Own (w7) (w4.heap.size) 0 (.int .i64 r.1) := ownJ; have x70 := o_x70.1; have f_x70 := o_x70.2; have o_x71 : Own (w7) (w4.heap.size) 1 (.int .i64 r.2) := ownJ; have x71 := o_x71.1; have f_x71 := o_x71.2
  have g7a : w7.cell? ⟨0, 0, none⟩ = some (.int .i64 (-4294967296)) := celK
  have g7b : w7.cell? ⟨0, 1, none⟩ = some (.int .i64 4294967296) := celK
  have g7c : w7.cell? ⟨1, 0, none⟩ = some (.int .i64 (-1)) := celK
  have g7d : w7.cell? ⟨1, 1, none⟩ = some (.int .i64 1) := celK

  have l70 : 0 < w7.heap.size := World.block_lt_of_cell? _ _ g7a
  have l71 : 1 < w7.heap.size := World.block_lt_of_cell? _ _ g7c
  have zz7 : w4.heap.size < w7.heap.size := World.block_lt_of_cell? _ _ x70; obtain ⟨zz7a, zz7b, zz7c, zz7d, zz7e, zz7f, zz7g, zz7h, zz7i⟩ := below_more zz7; have zn7 : ¬ w4.heap.size = w7.heap.size := Nat.ne_of_lt zz7; have zm7 : ¬ w7.heap.size = w4.heap.size := Nat.ne_of_gt zz7
  go_wp2_with fail
  obtain ⟨hlt2, hlt3, hlt4, hlt5, hlt6, hlt7, hlt8, hlt9, hlt10, hlt11⟩ := below_add; go_region_held3 (fun w' => w'.cell? ⟨w4.heap.size, 0, none⟩ = some (.int .i64 r.1) ∧ w'.cell? ⟨w4.heap.size, 1, none⟩ = some (.int .i64 r.2) ∧ w'.cell? ⟨0, 0, none⟩ = some (.int .i64 (-4294967296)) ∧ w'.cell? ⟨0, 1, none⟩ = some (.int .i64 4294967296) ∧ w'.cell? ⟨1, 0, none⟩ = some (.int .i64 (-1)) ∧ w'.cell? ⟨1, 1, none⟩ = some (.int .i64 1)) (first | (with_reducible exact ((And.imp (cell_kept (by assumption)) (And.imp (cell_kept (by assumption)) (And.imp (cell_kept (by assumption)) (And.imp (cell_kept (by assumption)) (And.imp (cell_kept (by assumption)) (cell_kept (by assumption))))))) (by assumption))) | (with_reducible exact ((And.imp (cell_alloc) (And.imp (cell_alloc) (And.imp (cell_alloc) (And.imp (cell_alloc) (And.imp (cell_alloc) (cell_alloc)))))) (by assumption))) | (with_reducible exact ((And.imp (fun h => cell_far (by first | (simp; done) | (simp; omega) | (dsimp only; omega)) (cell_far (by first | (simp; done) | (simp; omega) | (dsimp only; omega)) h)) (And.imp (fun h => cell_far (by first | (simp; done) | (simp; omega) | (dsimp only; omega)) (cell_far (by first | (simp; done) | (simp; omega) | (dsimp only; omega)) h)) (And.imp (fun h => cell_far (by first | (simp; done) | (simp; omega) | (dsimp only; omega)) (cell_far (by first | (simp; done) | (simp; omega) | (dsimp only; omega)) h)) (And.imp (fun h => cell_far (by first | (simp; done) | (simp; omega) | (dsimp only; omega)) (cell_far (by first | (simp; done) | (simp; omega) | (dsimp only; omega)) h)) (And.imp (fun h => cell_far (by first | (simp; done) | (simp; omega) | (dsimp only; omega)) (cell_far (by first | (simp; done) | (simp; omega) | (dsimp only; omega)) h)) (fun h => cell_far (by first | (simp; done) | (simp; omega) | (dsimp only; omega)) (cell_far (by first | (simp; done) | (simp; omega) | (dsimp only; omega)) h))))))) (by assumption))) | (refine ⟨?_, ?_, ?_, ?_, ?_, ?_⟩ <;> repeat (first | (with_reducible assumption) | (with_reducible refine cell_far (by first | (simp; done) | (simp; omega) | (dsimp only; omega)) ?_) | (with_reducible refine cell_drew ?_) | (with_reducible refine cell_drewN ?_) | (with_reducible refine cell_kept (by assumption) ?_) | (simp [go_sem]; done) | (with_reducible refine cell_alloc ?_))) | (simp [go_sem, *]; done)) (first | (go_at_call 126; refine (SinSeries_any r hr.out _ (by refine ⟨?_, ?_, ?_, ?_⟩ <;> simp [go_sem, *])).mono ?_; rintro e w1 ⟨rfl, hb⟩; have hs : _ ≤ w1.heap.size := hb.size; (try simp at hs); obtain ⟨hc, hf, hl, hn, hm⟩ := behind hb) | (go_at_call 70; refine (M.out _ _).mono ?_; rintro e w1 ⟨rfl, hb⟩; have hs : _ ≤ w1.heap.size := hb.size; (try simp at hs); obtain ⟨hc, hf, hl, hn, hm⟩ := behind hb))
  rotate_right
  · (have o_j0 : Own (w1) (w.heap.size) 0 (.int .i64 0) := ownJ; have j0 := o_j0.1; have f_j0 := o_j0.2; have o_j1 : Own (w1) (w.heap.size) 1 (.int .i64 0) := ownJ; have j1 := o_j1.1; have f_j1 := o_j1.2; have lz := World.block_lt_of_cell? _ _ j0; have o_nb0 : Own (w1) (w7.heap.size) 0 (.int .i64 0) := (by repeat (first | (with_reducible assumption) | (with_reducible refine own_drew ?_) | (with_reducible refine own_drewN ?_) | (with_reducible refine own_kept (by assumption) ?_) | (refine ⟨?_, ?_⟩ <;> simp [go_sem]; done) | (with_reducible refine own_alloc ?_))); have nb0 := o_nb0.1; have f_nb0 := o_nb0.2; have o_nb1 : Own (w1) (w7.heap.size) 1 (.int .i64 0) := (by repeat (first | (with_reducible assumption) | (with_reducible refine own_drew ?_) | (with_reducible refine own_drewN ?_) | (with_reducible refine own_kept (by assumption) ?_) | (refine ⟨?_, ?_⟩ <;> simp [go_sem]; done) | (with_reducible refine own_alloc ?_))); have nb1 := o_nb1.1; have f_nb1 := o_nb1.2; go_wp2; exact bodyPost_ret (v := .agg #[.int .i64 (metI (sinS (r)) rng).1, .int .i64 (metI (sinS (r)) rng).2]) (by simp [results, Tryz.results84, go_sem, j0, j1, lz]) rfl ⟨by rw [E.out], belB⟩)
  all_goals (have o_j0 : Own (w1) (w.heap.size) 0 (.int .i64 0) := ownJ; have j0 := o_j0.1; have f_j0 := o_j0.2; have o_j1 : Own (w1) (w.heap.size) 1 (.int .i64 0) := ownJ; have j1 := o_j1.1; have f_j1 := o_j1.2; have lz := World.block_lt_of_cell? _ _ j0; go_wp2; exact bodyPost_ret (v := .agg #[.int .i64 (metI (sinS (r)) rng).1, .int .i64 (metI (sinS (r)) rng).2]) (by simp [results, Tryz.results84, go_sem, j0, j1, lz]) rfl ⟨by rw [E.out], belB⟩)
set_option maxHeartbeats 4000000 in
theorem sineAt_1 (n q : Int) (hn : In64 n) (q0 : 0 ≤ q) (q1 : q ≤ 1) (a : Ang n) (hm : (qrt n + q) % 4 = 1) (w : World) (hg : Glo w) : Calls Tryz.prog 84 #[.int .i64 n, .int .i64 q] w fun e w' =>
    e = .returned (.agg #[.int .i64 (sinA n q).1, .int .i64 (sinA n q).2]) ∧ Below w.heap.size w w' := by
  have hg' := hg
  obtain ⟨g0, g1, g2, g3⟩ := hg'
  clear hg
  have C := Lib.hid (fun w => isAngle_any n w)
  have B := Lib.hid (show ang n = true from decide_eq_true a)
  have kq := qrt_in n
  have E := Lib.hid (show sinA n q = metI (cosS (resA n)) rng by unfold sinA; rw [if_pos a, hm]; simp [quaS])
  have K := Lib.hid (fun w => QuarterOf_any n hn w)
  have T := Lib.hid (fun w => TurnI_any (qrt n) w)
  have S := Lib.hid (fun w => SubI_any (n, n) (turI (qrt n)) w)
  have hr := Lib.hid (show Ok (resA n) from res_ok (sub_res _ _))
  have hR := Lib.hid (show subI (n, n) (turI (qrt n)) = resA n from rfl)
  rw [hR.out] at S
  have A := Lib.hid (fun f0 f1 f2 f3 w => atQuarter1 f0 f1 f2 f3 (qrt n + q) hm w)
  have M := Lib.hid (fun z w => MeetI_any z rng w)
  clear a hR hm hn
  generalize resA n = r at *
  generalize turI (qrt n) = t at *
  obtain ⟨k0, k1⟩ := kq
  generalize qrt n = k at *
  generalize sinA n q = Y at *
  go_enter Tryz.func84, Tryz.ntmps84
  go_wp2_with fail
  refine (C.out _).mono ?_
  rintro e w1 ⟨rfl, hb1⟩
  have hs1 : _ ≤ w1.heap.size := hb1.size
  try simp at hs1
  rw [B.out]
  go_wp2_with fail
  refine (K.out _).mono ?_
  rintro e w2 ⟨rfl, hb2⟩
  have hs2 : _ ≤ w2.heap.size := hb2.size
  try simp at hs2
  go_wp2_with fail
  refine (single_any n _).mono ?_
  rintro e w8 ⟨rfl, hb8⟩
  have hs8 : _ ≤ w8.heap.size := hb8.size
  try simp at hs8
  go_wp2_with fail
  refine (T.out _).mono ?_
  rintro e w3 ⟨rfl, hb3⟩
  have hs3 : _ ≤ w3.heap.size := hb3.size
  try simp at hs3
  go_wp2_with fail
  refine (S.out _).mono ?_
  rintro e w4 ⟨rfl, hb4⟩
  have hs4 : _ ≤ w4.heap.size := hb4.size
  try simp at hs4
  have o_q40 : Own (w4) (w.heap.size) 0 (.int .i64 0) := ownJ; have q40 := o_q40.1; have f_q40 := o_q40.2; have o_q41 : Own (w4) (w.heap.size) 1 (.int .i64 0) := ownJ; have q41 := o_q41.1; have f_q41 := o_q41.2
  have zz4 : w.heap.size < w4.heap.size := World.block_lt_of_cell? _ _ q40; obtain ⟨zz4a, zz4b, zz4c, zz4d, zz4e, zz4f, zz4g, zz4h, zz4i⟩ := below_more zz4; have zn4 : ¬ w.heap.size = w4.heap.size := Nat.ne_of_lt zz4; have zm4 : ¬ w4.heap.size = w.heap.size := Nat.ne_of_gt zz4
  have g4a : w4.cell? ⟨0, 0, none⟩ = some (.int .i64 (-4294967296)) := celK
  have g4b : w4.cell? ⟨0, 1, none⟩ = some (.int .i64 4294967296) := celK
  have g4c : w4.cell? ⟨1, 0, none⟩ = some (.int .i64 (-1)) := celK
  have g4d : w4.cell? ⟨1, 1, none⟩ = some (.int .i64 1) := celK
  go_wp2_with fail
  refine (opposite_Sin _).mono ?_
  rintro e w5 ⟨rfl, hw5⟩
  subst hw5
  go_wp2_with fail
  refine (opposite_Cos _).mono ?_
  rintro e w6 ⟨rfl, hw6⟩
  subst hw6
  go_wp2_with fail
  refine (A.out _ _ _ _ _).mono ?_
  rintro e w7 ⟨rfl, hb7⟩
  have hs7 : _ ≤ w7.heap.size := hb7.size
  try simp at hs7
  have o_q70 : Own (w7) (w.heap.size) 0 (.int .i64 0) := ownJ; have q70 := o_q70.1; have f_q70 := o_q70.2; have o_q71 : Own (w7) (w.heap.size) 1 (.int .i64 0) := ownJ; have q71 := o_q71.1; have f_q71 := o_q71.2
  have o_x70 : Own (w7) (w4.heap.size) 0 (.int .i64 r.1) := ownJ; have x70 := o_x70.1; have f_x70 := o_x70.2; have o_x71 : Own (w7) (w4.heap.size) 1 (.int .i64 r.2) := ownJ; have x71 := o_x71.1; have f_x71 := o_x71.2
  have g7a : w7.cell? ⟨0, 0, none⟩ = some (.int .i64 (-4294967296)) := celK
  have g7b : w7.cell? ⟨0, 1, none⟩ = some (.int .i64 4294967296) := celK
  have g7c : w7.cell? ⟨1, 0, none⟩ = some (.int .i64 (-1)) := celK
  have g7d : w7.cell? ⟨1, 1, none⟩ = some (.int .i64 1) := celK

  have l70 : 0 < w7.heap.size := World.block_lt_of_cell? _ _ g7a
  have l71 : 1 < w7.heap.size := World.block_lt_of_cell? _ _ g7c
  have zz7 : w4.heap.size < w7.heap.size := World.block_lt_of_cell? _ _ x70; obtain ⟨zz7a, zz7b, zz7c, zz7d, zz7e, zz7f, zz7g, zz7h, zz7i⟩ := below_more zz7; have zn7 : ¬ w4.heap.size = w7.heap.size := Nat.ne_of_lt zz7; have zm7 : ¬ w7.heap.size = w4.heap.size := Nat.ne_of_gt zz7
  go_wp2_with fail
  obtain ⟨hlt2, hlt3, hlt4, hlt5, hlt6, hlt7, hlt8, hlt9, hlt10, hlt11⟩ := below_add; go_region_held3 (fun w' => w'.cell? ⟨w4.heap.size, 0, none⟩ = some (.int .i64 r.1) ∧ w'.cell? ⟨w4.heap.size, 1, none⟩ = some (.int .i64 r.2) ∧ w'.cell? ⟨0, 0, none⟩ = some (.int .i64 (-4294967296)) ∧ w'.cell? ⟨0, 1, none⟩ = some (.int .i64 4294967296) ∧ w'.cell? ⟨1, 0, none⟩ = some (.int .i64 (-1)) ∧ w'.cell? ⟨1, 1, none⟩ = some (.int .i64 1)) (first | (with_reducible exact ((And.imp (cell_kept (by assumption)) (And.imp (cell_kept (by assumption)) (And.imp (cell_kept (by assumption)) (And.imp (cell_kept (by assumption)) (And.imp (cell_kept (by assumption)) (cell_kept (by assumption))))))) (by assumption))) | (with_reducible exact ((And.imp (cell_alloc) (And.imp (cell_alloc) (And.imp (cell_alloc) (And.imp (cell_alloc) (And.imp (cell_alloc) (cell_alloc)))))) (by assumption))) | (with_reducible exact ((And.imp (fun h => cell_far (by first | (simp; done) | (simp; omega) | (dsimp only; omega)) (cell_far (by first | (simp; done) | (simp; omega) | (dsimp only; omega)) h)) (And.imp (fun h => cell_far (by first | (simp; done) | (simp; omega) | (dsimp only; omega)) (cell_far (by first | (simp; done) | (simp; omega) | (dsimp only; omega)) h)) (And.imp (fun h => cell_far (by first | (simp; done) | (simp; omega) | (dsimp only; omega)) (cell_far (by first | (simp; done) | (simp; omega) | (dsimp only; omega)) h)) (And.imp (fun h => cell_far (by first | (simp; done) | (simp; omega) | (dsimp only; omega)) (cell_far (by first | (simp; done) | (simp; omega) | (dsimp only; omega)) h)) (And.imp (fun h => cell_far (by first | (simp; done) | (simp; omega) | (dsimp only; omega)) (cell_far (by first | (simp; done) | (simp; omega) | (dsimp only; omega)) h)) (fun h => cell_far (by first | (simp; done) | (simp; omega) | (dsimp only; omega)) (cell_far (by first | (simp; done) | (simp; omega) | (dsimp only; omega)) h))))))) (by assumption))) | (refine ⟨?_, ?_, ?_, ?_, ?_, ?_⟩ <;> repeat (first | (with_reducible assumption) | (with_reducible refine cell_far (by first | (simp; done) | (simp; omega) | (dsimp only; omega)) ?_) | (with_reducible refine cell_drew ?_) | (with_reducible refine cell_drewN ?_) | (with_reducible refine cell_kept (by assumption) ?_) | (simp [go_sem]; done) | (with_reducible refine cell_alloc ?_))) | (simp [go_sem, *]; done)) (first | (go_at_call 127; refine (CosSeries_any r hr.out _ (by refine ⟨?_, ?_, ?_, ?_⟩ <;> simp [go_sem, *])).mono ?_; rintro e w1 ⟨rfl, hb⟩; have hs : _ ≤ w1.heap.size := hb.size; (try simp at hs); obtain ⟨hc, hf, hl, hn, hm⟩ := behind hb) | (go_at_call 70; refine (M.out _ _).mono ?_; rintro e w1 ⟨rfl, hb⟩; have hs : _ ≤ w1.heap.size := hb.size; (try simp at hs); obtain ⟨hc, hf, hl, hn, hm⟩ := behind hb))
  rotate_right
  · (have o_j0 : Own (w1) (w.heap.size) 0 (.int .i64 0) := ownJ; have j0 := o_j0.1; have f_j0 := o_j0.2; have o_j1 : Own (w1) (w.heap.size) 1 (.int .i64 0) := ownJ; have j1 := o_j1.1; have f_j1 := o_j1.2; have lz := World.block_lt_of_cell? _ _ j0; have o_nb0 : Own (w1) (w7.heap.size) 0 (.int .i64 0) := (by repeat (first | (with_reducible assumption) | (with_reducible refine own_drew ?_) | (with_reducible refine own_drewN ?_) | (with_reducible refine own_kept (by assumption) ?_) | (refine ⟨?_, ?_⟩ <;> simp [go_sem]; done) | (with_reducible refine own_alloc ?_))); have nb0 := o_nb0.1; have f_nb0 := o_nb0.2; have o_nb1 : Own (w1) (w7.heap.size) 1 (.int .i64 0) := (by repeat (first | (with_reducible assumption) | (with_reducible refine own_drew ?_) | (with_reducible refine own_drewN ?_) | (with_reducible refine own_kept (by assumption) ?_) | (refine ⟨?_, ?_⟩ <;> simp [go_sem]; done) | (with_reducible refine own_alloc ?_))); have nb1 := o_nb1.1; have f_nb1 := o_nb1.2; go_wp2; exact bodyPost_ret (v := .agg #[.int .i64 (metI (cosS (r)) rng).1, .int .i64 (metI (cosS (r)) rng).2]) (by simp [results, Tryz.results84, go_sem, j0, j1, lz]) rfl ⟨by rw [E.out], belB⟩)
  all_goals (have o_j0 : Own (w1) (w.heap.size) 0 (.int .i64 0) := ownJ; have j0 := o_j0.1; have f_j0 := o_j0.2; have o_j1 : Own (w1) (w.heap.size) 1 (.int .i64 0) := ownJ; have j1 := o_j1.1; have f_j1 := o_j1.2; have lz := World.block_lt_of_cell? _ _ j0; go_wp2; exact bodyPost_ret (v := .agg #[.int .i64 (metI (cosS (r)) rng).1, .int .i64 (metI (cosS (r)) rng).2]) (by simp [results, Tryz.results84, go_sem, j0, j1, lz]) rfl ⟨by rw [E.out], belB⟩)
end Go.Proofs.YtnhpacaidcjaoaaGreatDoor
namespace Go.Proofs.YtnhpacaidcjaoaaGreatDoor
open Go.ChangeShapes Go.WideShapes Go.ChangeAt Go.RowKit
set_option linter.unusedVariables false
set_option maxRecDepth 100000
set_option linter.unusedSimpArgs false
set_option maxHeartbeats 1000000
set_option maxHeartbeats 4000000 in
theorem sineAt_2 (n q : Int) (hn : In64 n) (q0 : 0 ≤ q) (q1 : q ≤ 1) (a : Ang n) (hm : (qrt n + q) % 4 = 2) (w : World) (hg : Glo w) : Calls Tryz.prog 84 #[.int .i64 n, .int .i64 q] w fun e w' =>
    e = .returned (.agg #[.int .i64 (sinA n q).1, .int .i64 (sinA n q).2]) ∧ Below w.heap.size w w' := by
  have hg' := hg
  obtain ⟨g0, g1, g2, g3⟩ := hg'
  clear hg
  have C := Lib.hid (fun w => isAngle_any n w)
  have B := Lib.hid (show ang n = true from decide_eq_true a)
  have kq := qrt_in n
  have E := Lib.hid (show sinA n q = metI (negI (sinS (resA n))) rng by unfold sinA; rw [if_pos a, hm]; simp [quaS])
  have K := Lib.hid (fun w => QuarterOf_any n hn w)
  have T := Lib.hid (fun w => TurnI_any (qrt n) w)
  have S := Lib.hid (fun w => SubI_any (n, n) (turI (qrt n)) w)
  have hr := Lib.hid (show Ok (resA n) from res_ok (sub_res _ _))
  have hR := Lib.hid (show subI (n, n) (turI (qrt n)) = resA n from rfl)
  rw [hR.out] at S
  have A := Lib.hid (fun f0 f1 f2 f3 w => atQuarter2 f0 f1 f2 f3 (qrt n + q) hm w)
  have M := Lib.hid (fun z w => MeetI_any z rng w)
  clear a hR hm hn
  generalize resA n = r at *
  generalize turI (qrt n) = t at *
  obtain ⟨k0, k1⟩ := kq
  generalize qrt n = k at *
  generalize sinA n q = Y at *
  go_enter Tryz.func84, Tryz.ntmps84
  go_wp2_with fail
  refine (C.out _).mono ?_
  rintro e w1 ⟨rfl, hb1⟩
  have hs1 : _ ≤ w1.heap.size := hb1.size
  try simp at hs1
  rw [B.out]
  go_wp2_with fail
  refine (K.out _).mono ?_
  rintro e w2 ⟨rfl, hb2⟩
  have hs2 : _ ≤ w2.heap.size := hb2.size
  try simp at hs2
  go_wp2_with fail
  refine (single_any n _).mono ?_
  rintro e w8 ⟨rfl, hb8⟩
  have hs8 : _ ≤ w8.heap.size := hb8.size
  try simp at hs8
  go_wp2_with fail
  refine (T.out _).mono ?_
  rintro e w3 ⟨rfl, hb3⟩
  have hs3 : _ ≤ w3.heap.size := hb3.size
  try simp at hs3
  go_wp2_with fail
  refine (S.out _).mono ?_
  rintro e w4 ⟨rfl, hb4⟩
  have hs4 : _ ≤ w4.heap.size := hb4.size
  try simp at hs4
  have o_q40 : Own (w4) (w.heap.size) 0 (.int .i64 0) := ownJ; have q40 := o_q40.1; have f_q40 := o_q40.2; have o_q41 : Own (w4) (w.heap.size) 1 (.int .i64 0) := ownJ; have q41 := o_q41.1; have f_q41 := o_q41.2
  have zz4 : w.heap.size < w4.heap.size := World.block_lt_of_cell? _ _ q40; obtain ⟨zz4a, zz4b, zz4c, zz4d, zz4e, zz4f, zz4g, zz4h, zz4i⟩ := below_more zz4; have zn4 : ¬ w.heap.size = w4.heap.size := Nat.ne_of_lt zz4; have zm4 : ¬ w4.heap.size = w.heap.size := Nat.ne_of_gt zz4
  have g4a : w4.cell? ⟨0, 0, none⟩ = some (.int .i64 (-4294967296)) := celK
  have g4b : w4.cell? ⟨0, 1, none⟩ = some (.int .i64 4294967296) := celK
  have g4c : w4.cell? ⟨1, 0, none⟩ = some (.int .i64 (-1)) := celK
  have g4d : w4.cell? ⟨1, 1, none⟩ = some (.int .i64 1) := celK
  go_wp2_with fail
  refine (opposite_Sin _).mono ?_
  rintro e w5 ⟨rfl, hw5⟩
  subst hw5
  go_wp2_with fail
  refine (opposite_Cos _).mono ?_
  rintro e w6 ⟨rfl, hw6⟩
  subst hw6
  go_wp2_with fail
  refine (A.out _ _ _ _ _).mono ?_
  rintro e w7 ⟨rfl, hb7⟩
  have hs7 : _ ≤ w7.heap.size := hb7.size
  try simp at hs7
  have o_q70 : Own (w7) (w.heap.size) 0 (.int .i64 0) := ownJ; have q70 := o_q70.1; have f_q70 := o_q70.2; have o_q71 : Own (w7) (w.heap.size) 1 (.int .i64 0) := ownJ; have q71 := o_q71.1; have f_q71 := o_q71.2
  have o_x70 : Own (w7) (w4.heap.size) 0 (.int .i64 r.1) := ownJ; have x70 := o_x70.1; have f_x70 := o_x70.2; have o_x71 : Own (w7) (w4.heap.size) 1 (.int .i64 r.2) := ownJ; have x71 := o_x71.1; have f_x71 := o_x71.2
  have g7a : w7.cell? ⟨0, 0, none⟩ = some (.int .i64 (-4294967296)) := celK
  have g7b : w7.cell? ⟨0, 1, none⟩ = some (.int .i64 4294967296) := celK
  have g7c : w7.cell? ⟨1, 0, none⟩ = some (.int .i64 (-1)) := celK
  have g7d : w7.cell? ⟨1, 1, none⟩ = some (.int .i64 1) := celK
  have c7 : w7.cell? ⟨w4.heap.size + 1, 0, none⟩ = some (.func (Fn.func 126) #[] #[]) := celK
  have l70 : 0 < w7.heap.size := World.block_lt_of_cell? _ _ g7a
  have l71 : 1 < w7.heap.size := World.block_lt_of_cell? _ _ g7c
  have zz7 : w4.heap.size < w7.heap.size := World.block_lt_of_cell? _ _ x70; obtain ⟨zz7a, zz7b, zz7c, zz7d, zz7e, zz7f, zz7g, zz7h, zz7i⟩ := below_more zz7; have zn7 : ¬ w4.heap.size = w7.heap.size := Nat.ne_of_lt zz7; have zm7 : ¬ w7.heap.size = w4.heap.size := Nat.ne_of_gt zz7
  go_wp2_with fail
  obtain ⟨hlt2, hlt3, hlt4, hlt5, hlt6, hlt7, hlt8, hlt9, hlt10, hlt11⟩ := below_add; go_region_held3 (fun w' => w'.cell? ⟨w4.heap.size, 0, none⟩ = some (.int .i64 r.1) ∧ w'.cell? ⟨w4.heap.size, 1, none⟩ = some (.int .i64 r.2) ∧ w'.cell? ⟨0, 0, none⟩ = some (.int .i64 (-4294967296)) ∧ w'.cell? ⟨0, 1, none⟩ = some (.int .i64 4294967296) ∧ w'.cell? ⟨1, 0, none⟩ = some (.int .i64 (-1)) ∧ w'.cell? ⟨1, 1, none⟩ = some (.int .i64 1) ∧ w'.cell? ⟨w4.heap.size + 1, 0, none⟩ = some (.func (Fn.func 126) #[] #[])) (first | (with_reducible exact ((And.imp (cell_kept (by assumption)) (And.imp (cell_kept (by assumption)) (And.imp (cell_kept (by assumption)) (And.imp (cell_kept (by assumption)) (And.imp (cell_kept (by assumption)) (And.imp (cell_kept (by assumption)) (cell_kept (by assumption)))))))) (by assumption))) | (with_reducible exact ((And.imp (cell_alloc) (And.imp (cell_alloc) (And.imp (cell_alloc) (And.imp (cell_alloc) (And.imp (cell_alloc) (And.imp (cell_alloc) (cell_alloc))))))) (by assumption))) | (with_reducible exact ((And.imp (fun h => cell_far (by first | (simp; done) | (simp; omega) | (dsimp only; omega)) (cell_far (by first | (simp; done) | (simp; omega) | (dsimp only; omega)) h)) (And.imp (fun h => cell_far (by first | (simp; done) | (simp; omega) | (dsimp only; omega)) (cell_far (by first | (simp; done) | (simp; omega) | (dsimp only; omega)) h)) (And.imp (fun h => cell_far (by first | (simp; done) | (simp; omega) | (dsimp only; omega)) (cell_far (by first | (simp; done) | (simp; omega) | (dsimp only; omega)) h)) (And.imp (fun h => cell_far (by first | (simp; done) | (simp; omega) | (dsimp only; omega)) (cell_far (by first | (simp; done) | (simp; omega) | (dsimp only; omega)) h)) (And.imp (fun h => cell_far (by first | (simp; done) | (simp; omega) | (dsimp only; omega)) (cell_far (by first | (simp; done) | (simp; omega) | (dsimp only; omega)) h)) (And.imp (fun h => cell_far (by first | (simp; done) | (simp; omega) | (dsimp only; omega)) (cell_far (by first | (simp; done) | (simp; omega) | (dsimp only; omega)) h)) (fun h => cell_far (by first | (simp; done) | (simp; omega) | (dsimp only; omega)) (cell_far (by first | (simp; done) | (simp; omega) | (dsimp only; omega)) h)))))))) (by assumption))) | (refine ⟨?_, ?_, ?_, ?_, ?_, ?_, ?_⟩ <;> repeat (first | (with_reducible assumption) | (with_reducible refine cell_far (by first | (simp; done) | (simp; omega) | (dsimp only; omega)) ?_) | (with_reducible refine cell_drew ?_) | (with_reducible refine cell_drewN ?_) | (with_reducible refine cell_kept (by assumption) ?_) | (simp [go_sem]; done) | (with_reducible refine cell_alloc ?_))) | (simp [go_sem, *]; done)) (first | (go_at_call 161; refine (oppLit_Sin r hr.out _ _ (by refine ⟨?_, ?_, ?_, ?_⟩ <;> simp [go_sem, *]) (by simp [go_sem, *])).mono ?_; rintro e w1 ⟨rfl, hb⟩; have hs : _ ≤ w1.heap.size := hb.size; (try simp at hs); obtain ⟨hc, hf, hl, hn, hm⟩ := behind hb) | (go_at_call 70; refine (M.out _ _).mono ?_; rintro e w1 ⟨rfl, hb⟩; have hs : _ ≤ w1.heap.size := hb.size; (try simp at hs); obtain ⟨hc, hf, hl, hn, hm⟩ := behind hb))
  rotate_right
  · (have o_j0 : Own (w1) (w.heap.size) 0 (.int .i64 0) := ownJ; have j0 := o_j0.1; have f_j0 := o_j0.2; have o_j1 : Own (w1) (w.heap.size) 1 (.int .i64 0) := ownJ; have j1 := o_j1.1; have f_j1 := o_j1.2; have lz := World.block_lt_of_cell? _ _ j0; have o_nb0 : Own (w1) (w7.heap.size) 0 (.int .i64 0) := (by repeat (first | (with_reducible assumption) | (with_reducible refine own_drew ?_) | (with_reducible refine own_drewN ?_) | (with_reducible refine own_kept (by assumption) ?_) | (refine ⟨?_, ?_⟩ <;> simp [go_sem]; done) | (with_reducible refine own_alloc ?_))); have nb0 := o_nb0.1; have f_nb0 := o_nb0.2; have o_nb1 : Own (w1) (w7.heap.size) 1 (.int .i64 0) := (by repeat (first | (with_reducible assumption) | (with_reducible refine own_drew ?_) | (with_reducible refine own_drewN ?_) | (with_reducible refine own_kept (by assumption) ?_) | (refine ⟨?_, ?_⟩ <;> simp [go_sem]; done) | (with_reducible refine own_alloc ?_))); have nb1 := o_nb1.1; have f_nb1 := o_nb1.2; go_wp2; exact bodyPost_ret (v := .agg #[.int .i64 (metI (negI (sinS (r))) rng).1, .int .i64 (metI (negI (sinS (r))) rng).2]) (by simp [results, Tryz.results84, go_sem, j0, j1, lz]) rfl ⟨by rw [E.out], belB⟩)
  all_goals (have o_j0 : Own (w1) (w.heap.size) 0 (.int .i64 0) := ownJ; have j0 := o_j0.1; have f_j0 := o_j0.2; have o_j1 : Own (w1) (w.heap.size) 1 (.int .i64 0) := ownJ; have j1 := o_j1.1; have f_j1 := o_j1.2; have lz := World.block_lt_of_cell? _ _ j0; go_wp2; exact bodyPost_ret (v := .agg #[.int .i64 (metI (negI (sinS (r))) rng).1, .int .i64 (metI (negI (sinS (r))) rng).2]) (by simp [results, Tryz.results84, go_sem, j0, j1, lz]) rfl ⟨by rw [E.out], belB⟩)
set_option maxHeartbeats 4000000 in
theorem sineAt_3 (n q : Int) (hn : In64 n) (q0 : 0 ≤ q) (q1 : q ≤ 1) (a : Ang n) (hm : (qrt n + q) % 4 = 3) (w : World) (hg : Glo w) : Calls Tryz.prog 84 #[.int .i64 n, .int .i64 q] w fun e w' =>
    e = .returned (.agg #[.int .i64 (sinA n q).1, .int .i64 (sinA n q).2]) ∧ Below w.heap.size w w' := by
  have hg' := hg
  obtain ⟨g0, g1, g2, g3⟩ := hg'
  clear hg
  have C := Lib.hid (fun w => isAngle_any n w)
  have B := Lib.hid (show ang n = true from decide_eq_true a)
  have kq := qrt_in n
  have E := Lib.hid (show sinA n q = metI (negI (cosS (resA n))) rng by unfold sinA; rw [if_pos a, hm]; simp [quaS])
  have K := Lib.hid (fun w => QuarterOf_any n hn w)
  have T := Lib.hid (fun w => TurnI_any (qrt n) w)
  have S := Lib.hid (fun w => SubI_any (n, n) (turI (qrt n)) w)
  have hr := Lib.hid (show Ok (resA n) from res_ok (sub_res _ _))
  have hR := Lib.hid (show subI (n, n) (turI (qrt n)) = resA n from rfl)
  rw [hR.out] at S
  have A := Lib.hid (fun f0 f1 f2 f3 w => atQuarter3 f0 f1 f2 f3 (qrt n + q) hm w)
  have M := Lib.hid (fun z w => MeetI_any z rng w)
  clear a hR hm hn
  generalize resA n = r at *
  generalize turI (qrt n) = t at *
  obtain ⟨k0, k1⟩ := kq
  generalize qrt n = k at *
  generalize sinA n q = Y at *
  go_enter Tryz.func84, Tryz.ntmps84
  go_wp2_with fail
  refine (C.out _).mono ?_
  rintro e w1 ⟨rfl, hb1⟩
  have hs1 : _ ≤ w1.heap.size := hb1.size
  try simp at hs1
  rw [B.out]
  go_wp2_with fail
  refine (K.out _).mono ?_
  rintro e w2 ⟨rfl, hb2⟩
  have hs2 : _ ≤ w2.heap.size := hb2.size
  try simp at hs2
  go_wp2_with fail
  refine (single_any n _).mono ?_
  rintro e w8 ⟨rfl, hb8⟩
  have hs8 : _ ≤ w8.heap.size := hb8.size
  try simp at hs8
  go_wp2_with fail
  refine (T.out _).mono ?_
  rintro e w3 ⟨rfl, hb3⟩
  have hs3 : _ ≤ w3.heap.size := hb3.size
  try simp at hs3
  go_wp2_with fail
  refine (S.out _).mono ?_
  rintro e w4 ⟨rfl, hb4⟩
  have hs4 : _ ≤ w4.heap.size := hb4.size
  try simp at hs4
  have o_q40 : Own (w4) (w.heap.size) 0 (.int .i64 0) := ownJ; have q40 := o_q40.1; have f_q40 := o_q40.2; have o_q41 : Own (w4) (w.heap.size) 1 (.int .i64 0) := ownJ; have q41 := o_q41.1; have f_q41 := o_q41.2
  have zz4 : w.heap.size < w4.heap.size := World.block_lt_of_cell? _ _ q40; obtain ⟨zz4a, zz4b, zz4c, zz4d, zz4e, zz4f, zz4g, zz4h, zz4i⟩ := below_more zz4; have zn4 : ¬ w.heap.size = w4.heap.size := Nat.ne_of_lt zz4; have zm4 : ¬ w4.heap.size = w.heap.size := Nat.ne_of_gt zz4
  have g4a : w4.cell? ⟨0, 0, none⟩ = some (.int .i64 (-4294967296)) := celK
  have g4b : w4.cell? ⟨0, 1, none⟩ = some (.int .i64 4294967296) := celK
  have g4c : w4.cell? ⟨1, 0, none⟩ = some (.int .i64 (-1)) := celK
  have g4d : w4.cell? ⟨1, 1, none⟩ = some (.int .i64 1) := celK
  go_wp2_with fail
  refine (opposite_Sin _).mono ?_
  rintro e w5 ⟨rfl, hw5⟩
  subst hw5
  go_wp2_with fail
  refine (opposite_Cos _).mono ?_
  rintro e w6 ⟨rfl, hw6⟩
  subst hw6
  go_wp2_with fail
  refine (A.out _ _ _ _ _).mono ?_
  rintro e w7 ⟨rfl, hb7⟩
  have hs7 : _ ≤ w7.heap.size := hb7.size
  try simp at hs7
  have o_q70 : Own (w7) (w.heap.size) 0 (.int .i64 0) := ownJ; have q70 := o_q70.1; have f_q70 := o_q70.2; have o_q71 : Own (w7) (w.heap.size) 1 (.int .i64 0) := ownJ; have q71 := o_q71.1; have f_q71 := o_q71.2
  have o_x70 : Own (w7) (w4.heap.size) 0 (.int .i64 r.1) := ownJ; have x70 := o_x70.1; have f_x70 := o_x70.2; have o_x71 : Own (w7) (w4.heap.size) 1 (.int .i64 r.2) := ownJ; have x71 := o_x71.1; have f_x71 := o_x71.2
  have g7a : w7.cell? ⟨0, 0, none⟩ = some (.int .i64 (-4294967296)) := celK
  have g7b : w7.cell? ⟨0, 1, none⟩ = some (.int .i64 4294967296) := celK
  have g7c : w7.cell? ⟨1, 0, none⟩ = some (.int .i64 (-1)) := celK
  have g7d : w7.cell? ⟨1, 1, none⟩ = some (.int .i64 1) := celK
  have c7 : w7.cell? ⟨w4.heap.size + 1 + 1, 0, none⟩ = some (.func (Fn.func 127) #[] #[]) := celK
  have l70 : 0 < w7.heap.size := World.block_lt_of_cell? _ _ g7a
  have l71 : 1 < w7.heap.size := World.block_lt_of_cell? _ _ g7c
  have zz7 : w4.heap.size < w7.heap.size := World.block_lt_of_cell? _ _ x70; obtain ⟨zz7a, zz7b, zz7c, zz7d, zz7e, zz7f, zz7g, zz7h, zz7i⟩ := below_more zz7; have zn7 : ¬ w4.heap.size = w7.heap.size := Nat.ne_of_lt zz7; have zm7 : ¬ w7.heap.size = w4.heap.size := Nat.ne_of_gt zz7
  go_wp2_with fail
  obtain ⟨hlt2, hlt3, hlt4, hlt5, hlt6, hlt7, hlt8, hlt9, hlt10, hlt11⟩ := below_add; go_region_held3 (fun w' => w'.cell? ⟨w4.heap.size, 0, none⟩ = some (.int .i64 r.1) ∧ w'.cell? ⟨w4.heap.size, 1, none⟩ = some (.int .i64 r.2) ∧ w'.cell? ⟨0, 0, none⟩ = some (.int .i64 (-4294967296)) ∧ w'.cell? ⟨0, 1, none⟩ = some (.int .i64 4294967296) ∧ w'.cell? ⟨1, 0, none⟩ = some (.int .i64 (-1)) ∧ w'.cell? ⟨1, 1, none⟩ = some (.int .i64 1) ∧ w'.cell? ⟨w4.heap.size + 1 + 1, 0, none⟩ = some (.func (Fn.func 127) #[] #[])) (first | (with_reducible exact ((And.imp (cell_kept (by assumption)) (And.imp (cell_kept (by assumption)) (And.imp (cell_kept (by assumption)) (And.imp (cell_kept (by assumption)) (And.imp (cell_kept (by assumption)) (And.imp (cell_kept (by assumption)) (cell_kept (by assumption)))))))) (by assumption))) | (with_reducible exact ((And.imp (cell_alloc) (And.imp (cell_alloc) (And.imp (cell_alloc) (And.imp (cell_alloc) (And.imp (cell_alloc) (And.imp (cell_alloc) (cell_alloc))))))) (by assumption))) | (with_reducible exact ((And.imp (fun h => cell_far (by first | (simp; done) | (simp; omega) | (dsimp only; omega)) (cell_far (by first | (simp; done) | (simp; omega) | (dsimp only; omega)) h)) (And.imp (fun h => cell_far (by first | (simp; done) | (simp; omega) | (dsimp only; omega)) (cell_far (by first | (simp; done) | (simp; omega) | (dsimp only; omega)) h)) (And.imp (fun h => cell_far (by first | (simp; done) | (simp; omega) | (dsimp only; omega)) (cell_far (by first | (simp; done) | (simp; omega) | (dsimp only; omega)) h)) (And.imp (fun h => cell_far (by first | (simp; done) | (simp; omega) | (dsimp only; omega)) (cell_far (by first | (simp; done) | (simp; omega) | (dsimp only; omega)) h)) (And.imp (fun h => cell_far (by first | (simp; done) | (simp; omega) | (dsimp only; omega)) (cell_far (by first | (simp; done) | (simp; omega) | (dsimp only; omega)) h)) (And.imp (fun h => cell_far (by first | (simp; done) | (simp; omega) | (dsimp only; omega)) (cell_far (by first | (simp; done) | (simp; omega) | (dsimp only; omega)) h)) (fun h => cell_far (by first | (simp; done) | (simp; omega) | (dsimp only; omega)) (cell_far (by first | (simp; done) | (simp; omega) | (dsimp only; omega)) h)))))))) (by assumption))) | (refine ⟨?_, ?_, ?_, ?_, ?_, ?_, ?_⟩ <;> repeat (first | (with_reducible assumption) | (with_reducible refine cell_far (by first | (simp; done) | (simp; omega) | (dsimp only; omega)) ?_) | (with_reducible refine cell_drew ?_) | (with_reducible refine cell_drewN ?_) | (with_reducible refine cell_kept (by assumption) ?_) | (simp [go_sem]; done) | (with_reducible refine cell_alloc ?_))) | (simp [go_sem, *]; done)) (first | (go_at_call 161; refine (oppLit_Cos r hr.out _ _ (by refine ⟨?_, ?_, ?_, ?_⟩ <;> simp [go_sem, *]) (by simp [go_sem, *])).mono ?_; rintro e w1 ⟨rfl, hb⟩; have hs : _ ≤ w1.heap.size := hb.size; (try simp at hs); obtain ⟨hc, hf, hl, hn, hm⟩ := behind hb) | (go_at_call 70; refine (M.out _ _).mono ?_; rintro e w1 ⟨rfl, hb⟩; have hs : _ ≤ w1.heap.size := hb.size; (try simp at hs); obtain ⟨hc, hf, hl, hn, hm⟩ := behind hb))
  rotate_right
  · (have o_j0 : Own (w1) (w.heap.size) 0 (.int .i64 0) := ownJ; have j0 := o_j0.1; have f_j0 := o_j0.2; have o_j1 : Own (w1) (w.heap.size) 1 (.int .i64 0) := ownJ; have j1 := o_j1.1; have f_j1 := o_j1.2; have lz := World.block_lt_of_cell? _ _ j0; have o_nb0 : Own (w1) (w7.heap.size) 0 (.int .i64 0) := (by repeat (first | (with_reducible assumption) | (with_reducible refine own_drew ?_) | (with_reducible refine own_drewN ?_) | (with_reducible refine own_kept (by assumption) ?_) | (refine ⟨?_, ?_⟩ <;> simp [go_sem]; done) | (with_reducible refine own_alloc ?_))); have nb0 := o_nb0.1; have f_nb0 := o_nb0.2; have o_nb1 : Own (w1) (w7.heap.size) 1 (.int .i64 0) := (by repeat (first | (with_reducible assumption) | (with_reducible refine own_drew ?_) | (with_reducible refine own_drewN ?_) | (with_reducible refine own_kept (by assumption) ?_) | (refine ⟨?_, ?_⟩ <;> simp [go_sem]; done) | (with_reducible refine own_alloc ?_))); have nb1 := o_nb1.1; have f_nb1 := o_nb1.2; go_wp2; exact bodyPost_ret (v := .agg #[.int .i64 (metI (negI (cosS (r))) rng).1, .int .i64 (metI (negI (cosS (r))) rng).2]) (by simp [results, Tryz.results84, go_sem, j0, j1, lz]) rfl ⟨by rw [E.out], belB⟩)
  all_goals (have o_j0 : Own (w1) (w.heap.size) 0 (.int .i64 0) := ownJ; have j0 := o_j0.1; have f_j0 := o_j0.2; have o_j1 : Own (w1) (w.heap.size) 1 (.int .i64 0) := ownJ; have j1 := o_j1.1; have f_j1 := o_j1.2; have lz := World.block_lt_of_cell? _ _ j0; go_wp2; exact bodyPost_ret (v := .agg #[.int .i64 (metI (negI (cosS (r))) rng).1, .int .i64 (metI (negI (cosS (r))) rng).2]) (by simp [results, Tryz.results84, go_sem, j0, j1, lz]) rfl ⟨by rw [E.out], belB⟩)
end Go.Proofs.YtnhpacaidcjaoaaGreatDoor
namespace Go.Proofs.YtnhpacaidcjaoaaGreatDoor
open Go.ChangeShapes Go.WideShapes Go.ChangeAt Go.RowKit
set_option linter.unusedVariables false
set_option maxRecDepth 100000
set_option linter.unusedSimpArgs false
set_option maxHeartbeats 1000000
theorem sineAt_any (n q : Int) (hn : In64 n) (q0 : 0 ≤ q) (q1 : q ≤ 1) (w : World) (hg : Glo w) : Calls Tryz.prog 84 #[.int .i64 n, .int .i64 q] w fun e w' =>
    e = .returned (.agg #[.int .i64 (sinA n q).1, .int .i64 (sinA n q).2]) ∧ Below w.heap.size w w' := by
  by_cases a : Ang n
  · have m : (qrt n + q) % 4 = 0 ∨ (qrt n + q) % 4 = 1 ∨ (qrt n + q) % 4 = 2 ∨ (qrt n + q) % 4 = 3 := by omega
    rcases m with m | m | m | m
    · exact sineAt_0 n q hn q0 q1 a m w hg
    · exact sineAt_1 n q hn q0 q1 a m w hg
    · exact sineAt_2 n q hn q0 q1 a m w hg
    · exact sineAt_3 n q hn q0 q1 a m w hg
  · exact sineAt_no n q a w hg
theorem SinAt_any (n : Int) (hn : In64 n) (w : World) (hg : Glo w) : Calls Tryz.prog 35 #[.int .i64 n] w fun e w' =>
    e = .returned (.agg #[.int .i64 (sinA n 0).1, .int .i64 (sinA n 0).2]) ∧ Below w.heap.size w w' := by
  have S := Lib.hid (fun w hg => sineAt_any n 0 hn (by omega) (by omega) w hg)
  generalize sinA n 0 = r at *
  go_enter Tryz.func35, Tryz.ntmps35
  go_wp2_with fail
  refine (S.out _ (hg.alloc _)).mono ?_
  rintro e w1 ⟨rfl, hb1⟩
  have hs1 : _ ≤ w1.heap.size := hb1.size
  try simp at hs1
  have o_qr10 : Own (w1) (w.heap.size) 0 (.int .i64 0) := ownJ; obtain ⟨qr10, f_qr10⟩ := o_qr10; have o_qr11 : Own (w1) (w.heap.size) 1 (.int .i64 0) := ownJ; obtain ⟨qr11, f_qr11⟩ := o_qr11
  go_wp2
  exact bodyPost_ret (v := .agg #[.int .i64 (r).1, .int .i64 (r).2]) (by simp [results, Tryz.results35, go_sem, qr10, qr11]) rfl ⟨rfl, belB⟩
theorem CosAt_any (n : Int) (hn : In64 n) (w : World) (hg : Glo w) : Calls Tryz.prog 37 #[.int .i64 n] w fun e w' =>
    e = .returned (.agg #[.int .i64 (sinA n 1).1, .int .i64 (sinA n 1).2]) ∧ Below w.heap.size w w' := by
  have S := Lib.hid (fun w hg => sineAt_any n 1 hn (by omega) (by omega) w hg)
  generalize sinA n 1 = r at *
  go_enter Tryz.func37, Tryz.ntmps37
  go_wp2_with fail
  refine (S.out _ (hg.alloc _)).mono ?_
  rintro e w1 ⟨rfl, hb1⟩
  have hs1 : _ ≤ w1.heap.size := hb1.size
  try simp at hs1
  have o_qr10 : Own (w1) (w.heap.size) 0 (.int .i64 0) := ownJ; obtain ⟨qr10, f_qr10⟩ := o_qr10; have o_qr11 : Own (w1) (w.heap.size) 1 (.int .i64 0) := ownJ; obtain ⟨qr11, f_qr11⟩ := o_qr11
  go_wp2
  exact bodyPost_ret (v := .agg #[.int .i64 (r).1, .int .i64 (r).2]) (by simp [results, Tryz.results37, go_sem, qr10, qr11]) rfl ⟨rfl, belB⟩
end Go.Proofs.YtnhpacaidcjaoaaGreatDoor
namespace Go.Proofs.YtnhpacaidcjaoaaGreatDoor
open Go.ChangeShapes Go.WideShapes Go.ChangeAt Go.RowKit
set_option linter.unusedVariables false
set_option maxRecDepth 100000
set_option linter.unusedSimpArgs false
set_option maxHeartbeats 1000000
theorem l05At_any (n : Int) (w : World) : Calls Tryz.prog 46 #[.int .i64 n] w fun e w' =>
    e = .returned (.agg #[.int .i64 n, .int .i64 n]) ∧ Below w.heap.size w w' := by
  go_enter Tryz.func46, Tryz.ntmps46
  go_wp2
  exact bodyPost_ret (v := .agg #[.int .i64 n, .int .i64 n]) (by simp [results, Tryz.results46, go_sem]) rfl ⟨rfl, belB⟩
theorem l06Meet_any (x : Iv) (ho : olpI x rng = true) (w : World) : Calls Tryz.prog 122 #[.agg #[.int .i64 x.1, .int .i64 x.2]] w fun e w' =>
    e = .returned (.agg #[.int .i64 (metI x rng).1, .int .i64 (metI x rng).2]) ∧ Below w.heap.size w w' := by
  have M := Lib.hid (fun w => sMeetI_any x rng w)
  rw [ho] at M
  generalize metI x rng = z at *
  go_enter Tryz.func122, Tryz.ntmps122
  go_wp2_with fail
  obtain ⟨hlt2, hlt3, hlt4, hlt5, hlt6, hlt7, hlt8, hlt9, hlt10, hlt11⟩ := below_add; go_region_held3 (fun w' => w'.cell? ⟨w.heap.size, 0, none⟩ = some (.int .i64 x.1) ∧ w'.cell? ⟨w.heap.size, 1, none⟩ = some (.int .i64 x.2)) (first | (with_reducible exact ((And.imp (cell_kept (by assumption)) (cell_kept (by assumption))) (by assumption))) | (with_reducible exact ((And.imp (cell_alloc) (cell_alloc)) (by assumption))) | (with_reducible exact ((And.imp (fun h => cell_far (by first | (simp; done) | (simp; omega) | (dsimp only; omega)) (cell_far (by first | (simp; done) | (simp; omega) | (dsimp only; omega)) h)) (fun h => cell_far (by first | (simp; done) | (simp; omega) | (dsimp only; omega)) (cell_far (by first | (simp; done) | (simp; omega) | (dsimp only; omega)) h))) (by assumption))) | (refine ⟨?_, ?_⟩ <;> repeat (first | (with_reducible assumption) | (with_reducible refine cell_far (by first | (simp; done) | (simp; omega) | (dsimp only; omega)) ?_) | (with_reducible refine cell_drew ?_) | (with_reducible refine cell_drewN ?_) | (with_reducible refine cell_kept (by assumption) ?_) | (simp [go_sem]; done) | (with_reducible refine cell_alloc ?_))) | (simp [go_sem, *]; done)) (first | (go_at_call 72; refine (l06Ring_any _).mono ?_; rintro e w1 ⟨rfl, hb⟩; have hs : _ ≤ w1.heap.size := hb.size; (try simp at hs); obtain ⟨hc, hf, hl, hn, hm⟩ := behind hb) | (go_at_call 65; refine (M.out _).mono ?_; rintro e w1 ⟨rfl, hb⟩; have hs : _ ≤ w1.heap.size := hb.size; (try simp at hs); obtain ⟨hc, hf, hl, hn, hm⟩ := behind hb))
  rotate_right
  · (have o_j0 : Own (w1) (w.heap.size + 1) 0 (.int .i64 0) := ownJ; have j0 := o_j0.1; have f_j0 := o_j0.2; have o_j1 : Own (w1) (w.heap.size + 1) 1 (.int .i64 0) := ownJ; have j1 := o_j1.1; have f_j1 := o_j1.2; have lz := World.block_lt_of_cell? _ _ j0; have o_nb0 : Own (w1) (w.heap.size + 1 + 1) 0 (.int .i64 0) := (by repeat (first | (with_reducible assumption) | (with_reducible refine own_drew ?_) | (with_reducible refine own_drewN ?_) | (with_reducible refine own_kept (by assumption) ?_) | (refine ⟨?_, ?_⟩ <;> simp [go_sem]; done) | (with_reducible refine own_alloc ?_))); have nb0 := o_nb0.1; have f_nb0 := o_nb0.2; have o_nb1 : Own (w1) (w.heap.size + 1 + 1) 1 (.int .i64 0) := (by repeat (first | (with_reducible assumption) | (with_reducible refine own_drew ?_) | (with_reducible refine own_drewN ?_) | (with_reducible refine own_kept (by assumption) ?_) | (refine ⟨?_, ?_⟩ <;> simp [go_sem]; done) | (with_reducible refine own_alloc ?_))); have nb1 := o_nb1.1; have f_nb1 := o_nb1.2; go_wp2; exact bodyPost_ret (v := .agg #[.int .i64 (z).1, .int .i64 (z).2]) (by simp [results, Tryz.results122, go_sem, j0, j1, lz]) rfl ⟨rfl, belB⟩)
  all_goals (have o_j0 : Own (w1) (w.heap.size + 1) 0 (.int .i64 0) := ownJ; have j0 := o_j0.1; have f_j0 := o_j0.2; have o_j1 : Own (w1) (w.heap.size + 1) 1 (.int .i64 0) := ownJ; have j1 := o_j1.1; have f_j1 := o_j1.2; have lz := World.block_lt_of_cell? _ _ j0; go_wp2; exact bodyPost_ret (v := .agg #[.int .i64 (z).1, .int .i64 (z).2]) (by simp [results, Tryz.results122, go_sem, j0, j1, lz]) rfl ⟨rfl, belB⟩)
theorem l06At_no (n q : Int) (a : ¬ Ang n) (w : World) : Calls Tryz.prog 83 #[.int .i64 n, .int .i64 q] w fun e w' =>
    e = .returned (.agg #[.int .i64 (sinA n q).1, .int .i64 (sinA n q).2]) ∧ Below w.heap.size w w' := by
  have C := Lib.hid (fun w => l06Angle_any n w)
  have B := Lib.hid (show ang n = false from decide_eq_false a)
  have E := Lib.hid (show sinA n q = rng from if_neg a)
  clear a
  go_enter Tryz.func83, Tryz.ntmps83
  go_wp2_with fail
  refine (C.out _).mono ?_
  rintro e w1 ⟨rfl, hb1⟩
  have hs1 : _ ≤ w1.heap.size := hb1.size
  try simp at hs1
  rw [B.out]
  have o_r10 : Own (w1) (w.heap.size) 0 (.int .i64 0) := ownJ; have r10 := o_r10.1; have f_r10 := o_r10.2; have o_r11 : Own (w1) (w.heap.size) 1 (.int .i64 0) := ownJ; have r11 := o_r11.1; have f_r11 := o_r11.2
  go_wp2_with fail
  refine (l06Ring_any _).mono ?_
  rintro e w2 ⟨rfl, hb2⟩
  have hs2 : _ ≤ w2.heap.size := hb2.size
  try simp at hs2
  have o_r20 : Own (w2) (w.heap.size) 0 (.int .i64 0) := ownJ; have r20 := o_r20.1; have f_r20 := o_r20.2; have o_r21 : Own (w2) (w.heap.size) 1 (.int .i64 0) := ownJ; have r21 := o_r21.1; have f_r21 := o_r21.2
  go_wp2
  exact bodyPost_ret (v := .agg #[.int .i64 (-4294967296), .int .i64 4294967296]) (by simp [results, Tryz.results83, go_sem, r20, r21]) rfl ⟨(by first | (rw [E.out]; done) | (rw [E.out]; rfl) | (simp [E.out]; done)), belB⟩
theorem l06At_0 (n q : Int) (hn : In64 n) (q0 : 0 ≤ q) (q1 : q ≤ 1) (a : Ang n) (hm : (qrt n + q) % 4 = 0) (w : World) : Calls Tryz.prog 83 #[.int .i64 n, .int .i64 q] w fun e w' =>
    e = .returned (.agg #[.int .i64 (sinA n q).1, .int .i64 (sinA n q).2]) ∧ Below w.heap.size w w' := by
  have C := Lib.hid (fun w => l06Angle_any n w)
  have B := Lib.hid (show ang n = true from decide_eq_true a)
  have kq := qrt_in n
  have E := Lib.hid (show sinA n q = metI (sinS (resA n)) rng by unfold sinA; rw [if_pos a, hm]; simp [quaS])
  have K := Lib.hid (fun w => sQuarterOf_any n hn w)
  have T := Lib.hid (fun w => sTurnI_any (qrt n) w)
  have S := Lib.hid (fun w => sSubI_any (n, n) (turI (qrt n)) w)
  have hR := Lib.hid (show subI (n, n) (turI (qrt n)) = resA n from rfl)
  rw [hR.out] at S
  have W := Lib.hid (fun w => sSinSeries_any (resA n) w)
  have N := Lib.hid (fun w => sNegI_any (sinS (resA n)) w)
  have ho : olpI (sinS (resA n)) rng = true := by have := sinA_meets a 0; simpa [quaS] using this
  have M := Lib.hid (fun w => l06Meet_any (sinS (resA n)) ho w)
  have AM : bits .and .i64 (qrt n + q) 3 = 0 := by rw [and_mask2]; exact hm
  clear a hR hm hn ho
  generalize metI (sinS (resA n)) rng = z at *
  generalize resA n = r at *
  generalize turI (qrt n) = t at *
  obtain ⟨k0, k1⟩ := kq
  generalize qrt n = k at *
  generalize sinA n q = Y at *
  go_enter Tryz.func83, Tryz.ntmps83
  go_wp2_with fail
  refine (C.out _).mono ?_
  rintro e w1 ⟨rfl, hb1⟩
  have hs1 : _ ≤ w1.heap.size := hb1.size
  try simp at hs1
  rw [B.out]
  go_wp2_with fail
  refine (K.out _).mono ?_
  rintro e w2 ⟨rfl, hb2⟩
  have hs2 : _ ≤ w2.heap.size := hb2.size
  try simp at hs2
  go_wp2_with fail
  refine (l05At_any n _).mono ?_
  rintro e w3 ⟨rfl, hb3⟩
  have hs3 : _ ≤ w3.heap.size := hb3.size
  try simp at hs3
  go_wp2_with fail
  refine (T.out _).mono ?_
  rintro e w4 ⟨rfl, hb4⟩
  have hs4 : _ ≤ w4.heap.size := hb4.size
  try simp at hs4
  go_wp2_with fail
  refine (S.out _).mono ?_
  rintro e w5 ⟨rfl, hb5⟩
  have hs5 : _ ≤ w5.heap.size := hb5.size
  try simp at hs5
  have o_q50 : Own (w5) (w.heap.size) 0 (.int .i64 0) := ownJ; have q50 := o_q50.1; have f_q50 := o_q50.2; have o_q51 : Own (w5) (w.heap.size) 1 (.int .i64 0) := ownJ; have q51 := o_q51.1; have f_q51 := o_q51.2
  have zz5 : w.heap.size < w5.heap.size := World.block_lt_of_cell? _ _ q50; obtain ⟨zz5a, zz5b, zz5c, zz5d, zz5e, zz5f, zz5g, zz5h, zz5i⟩ := below_more zz5; have zn5 : ¬ w.heap.size = w5.heap.size := Nat.ne_of_lt zz5; have zm5 : ¬ w5.heap.size = w.heap.size := Nat.ne_of_gt zz5
  go_wp2_with fail
  refine (W.out _).mono ?_
  rintro e w6 ⟨rfl, hb6⟩
  have hs6 : _ ≤ w6.heap.size := hb6.size
  try simp at hs6
  have o_q60 : Own (w6) (w.heap.size) 0 (.int .i64 0) := ownJ; have q60 := o_q60.1; have f_q60 := o_q60.2; have o_q61 : Own (w6) (w.heap.size) 1 (.int .i64 0) := ownJ; have q61 := o_q61.1; have f_q61 := o_q61.2
  go_wp2_with fail
  refine (M.out _).mono ?_
  rintro e w8 ⟨rfl, hb8⟩
  have hs8 : _ ≤ w8.heap.size := hb8.size
  try simp at hs8
  have o_q80 : Own (w8) (w.heap.size) 0 (.int .i64 0) := ownJ; obtain ⟨q80, f_q80⟩ := o_q80; have o_q81 : Own (w8) (w.heap.size) 1 (.int .i64 0) := ownJ; obtain ⟨q81, f_q81⟩ := o_q81
  go_wp2
  exact bodyPost_ret (v := .agg #[.int .i64 (z).1, .int .i64 (z).2]) (by simp [results, Tryz.results83, go_sem, q80, q81]) rfl ⟨by rw [E.out], belB⟩
theorem l06At_1 (n q : Int) (hn : In64 n) (q0 : 0 ≤ q) (q1 : q ≤ 1) (a : Ang n) (hm : (qrt n + q) % 4 = 1) (w : World) : Calls Tryz.prog 83 #[.int .i64 n, .int .i64 q] w fun e w' =>
    e = .returned (.agg #[.int .i64 (sinA n q).1, .int .i64 (sinA n q).2]) ∧ Below w.heap.size w w' := by
  have C := Lib.hid (fun w => l06Angle_any n w)
  have B := Lib.hid (show ang n = true from decide_eq_true a)
  have kq := qrt_in n
  have E := Lib.hid (show sinA n q = metI (cosS (resA n)) rng by unfold sinA; rw [if_pos a, hm]; simp [quaS])
  have K := Lib.hid (fun w => sQuarterOf_any n hn w)
  have T := Lib.hid (fun w => sTurnI_any (qrt n) w)
  have S := Lib.hid (fun w => sSubI_any (n, n) (turI (qrt n)) w)
  have hR := Lib.hid (show subI (n, n) (turI (qrt n)) = resA n from rfl)
  rw [hR.out] at S
  have W := Lib.hid (fun w => sCosSeries_any (resA n) w)
  have N := Lib.hid (fun w => sNegI_any (cosS (resA n)) w)
  have ho : olpI (cosS (resA n)) rng = true := by have := sinA_meets a 1; simpa [quaS] using this
  have M := Lib.hid (fun w => l06Meet_any (cosS (resA n)) ho w)
  have AM : bits .and .i64 (qrt n + q) 3 = 1 := by rw [and_mask2]; exact hm
  clear a hR hm hn ho
  generalize metI (cosS (resA n)) rng = z at *
  generalize resA n = r at *
  generalize turI (qrt n) = t at *
  obtain ⟨k0, k1⟩ := kq
  generalize qrt n = k at *
  generalize sinA n q = Y at *
  go_enter Tryz.func83, Tryz.ntmps83
  go_wp2_with fail
  refine (C.out _).mono ?_
  rintro e w1 ⟨rfl, hb1⟩
  have hs1 : _ ≤ w1.heap.size := hb1.size
  try simp at hs1
  rw [B.out]
  go_wp2_with fail
  refine (K.out _).mono ?_
  rintro e w2 ⟨rfl, hb2⟩
  have hs2 : _ ≤ w2.heap.size := hb2.size
  try simp at hs2
  go_wp2_with fail
  refine (l05At_any n _).mono ?_
  rintro e w3 ⟨rfl, hb3⟩
  have hs3 : _ ≤ w3.heap.size := hb3.size
  try simp at hs3
  go_wp2_with fail
  refine (T.out _).mono ?_
  rintro e w4 ⟨rfl, hb4⟩
  have hs4 : _ ≤ w4.heap.size := hb4.size
  try simp at hs4
  go_wp2_with fail
  refine (S.out _).mono ?_
  rintro e w5 ⟨rfl, hb5⟩
  have hs5 : _ ≤ w5.heap.size := hb5.size
  try simp at hs5
  have o_q50 : Own (w5) (w.heap.size) 0 (.int .i64 0) := ownJ; have q50 := o_q50.1; have f_q50 := o_q50.2; have o_q51 : Own (w5) (w.heap.size) 1 (.int .i64 0) := ownJ; have q51 := o_q51.1; have f_q51 := o_q51.2
  have zz5 : w.heap.size < w5.heap.size := World.block_lt_of_cell? _ _ q50; obtain ⟨zz5a, zz5b, zz5c, zz5d, zz5e, zz5f, zz5g, zz5h, zz5i⟩ := below_more zz5; have zn5 : ¬ w.heap.size = w5.heap.size := Nat.ne_of_lt zz5; have zm5 : ¬ w5.heap.size = w.heap.size := Nat.ne_of_gt zz5
  go_wp2_with fail
  refine (W.out _).mono ?_
  rintro e w6 ⟨rfl, hb6⟩
  have hs6 : _ ≤ w6.heap.size := hb6.size
  try simp at hs6
  have o_q60 : Own (w6) (w.heap.size) 0 (.int .i64 0) := ownJ; have q60 := o_q60.1; have f_q60 := o_q60.2; have o_q61 : Own (w6) (w.heap.size) 1 (.int .i64 0) := ownJ; have q61 := o_q61.1; have f_q61 := o_q61.2
  go_wp2_with fail
  refine (M.out _).mono ?_
  rintro e w8 ⟨rfl, hb8⟩
  have hs8 : _ ≤ w8.heap.size := hb8.size
  try simp at hs8
  have o_q80 : Own (w8) (w.heap.size) 0 (.int .i64 0) := ownJ; obtain ⟨q80, f_q80⟩ := o_q80; have o_q81 : Own (w8) (w.heap.size) 1 (.int .i64 0) := ownJ; obtain ⟨q81, f_q81⟩ := o_q81
  go_wp2
  exact bodyPost_ret (v := .agg #[.int .i64 (z).1, .int .i64 (z).2]) (by simp [results, Tryz.results83, go_sem, q80, q81]) rfl ⟨by rw [E.out], belB⟩
theorem l06At_2 (n q : Int) (hn : In64 n) (q0 : 0 ≤ q) (q1 : q ≤ 1) (a : Ang n) (hm : (qrt n + q) % 4 = 2) (w : World) : Calls Tryz.prog 83 #[.int .i64 n, .int .i64 q] w fun e w' =>
    e = .returned (.agg #[.int .i64 (sinA n q).1, .int .i64 (sinA n q).2]) ∧ Below w.heap.size w w' := by
  have C := Lib.hid (fun w => l06Angle_any n w)
  have B := Lib.hid (show ang n = true from decide_eq_true a)
  have kq := qrt_in n
  have E := Lib.hid (show sinA n q = metI (negI (sinS (resA n))) rng by unfold sinA; rw [if_pos a, hm]; simp [quaS])
  have K := Lib.hid (fun w => sQuarterOf_any n hn w)
  have T := Lib.hid (fun w => sTurnI_any (qrt n) w)
  have S := Lib.hid (fun w => sSubI_any (n, n) (turI (qrt n)) w)
  have hR := Lib.hid (show subI (n, n) (turI (qrt n)) = resA n from rfl)
  rw [hR.out] at S
  have W := Lib.hid (fun w => sSinSeries_any (resA n) w)
  have N := Lib.hid (fun w => sNegI_any (sinS (resA n)) w)
  have ho : olpI (negI (sinS (resA n))) rng = true := by have := sinA_meets a 2; simpa [quaS] using this
  have M := Lib.hid (fun w => l06Meet_any (negI (sinS (resA n))) ho w)
  have AM : bits .and .i64 (qrt n + q) 3 = 2 := by rw [and_mask2]; exact hm
  clear a hR hm hn ho
  generalize metI (negI (sinS (resA n))) rng = z at *
  generalize resA n = r at *
  generalize turI (qrt n) = t at *
  obtain ⟨k0, k1⟩ := kq
  generalize qrt n = k at *
  generalize sinA n q = Y at *
  go_enter Tryz.func83, Tryz.ntmps83
  go_wp2_with fail
  refine (C.out _).mono ?_
  rintro e w1 ⟨rfl, hb1⟩
  have hs1 : _ ≤ w1.heap.size := hb1.size
  try simp at hs1
  rw [B.out]
  go_wp2_with fail
  refine (K.out _).mono ?_
  rintro e w2 ⟨rfl, hb2⟩
  have hs2 : _ ≤ w2.heap.size := hb2.size
  try simp at hs2
  go_wp2_with fail
  refine (l05At_any n _).mono ?_
  rintro e w3 ⟨rfl, hb3⟩
  have hs3 : _ ≤ w3.heap.size := hb3.size
  try simp at hs3
  go_wp2_with fail
  refine (T.out _).mono ?_
  rintro e w4 ⟨rfl, hb4⟩
  have hs4 : _ ≤ w4.heap.size := hb4.size
  try simp at hs4
  go_wp2_with fail
  refine (S.out _).mono ?_
  rintro e w5 ⟨rfl, hb5⟩
  have hs5 : _ ≤ w5.heap.size := hb5.size
  try simp at hs5
  have o_q50 : Own (w5) (w.heap.size) 0 (.int .i64 0) := ownJ; have q50 := o_q50.1; have f_q50 := o_q50.2; have o_q51 : Own (w5) (w.heap.size) 1 (.int .i64 0) := ownJ; have q51 := o_q51.1; have f_q51 := o_q51.2
  have zz5 : w.heap.size < w5.heap.size := World.block_lt_of_cell? _ _ q50; obtain ⟨zz5a, zz5b, zz5c, zz5d, zz5e, zz5f, zz5g, zz5h, zz5i⟩ := below_more zz5; have zn5 : ¬ w.heap.size = w5.heap.size := Nat.ne_of_lt zz5; have zm5 : ¬ w5.heap.size = w.heap.size := Nat.ne_of_gt zz5
  go_wp2_with fail
  refine (W.out _).mono ?_
  rintro e w6 ⟨rfl, hb6⟩
  have hs6 : _ ≤ w6.heap.size := hb6.size
  try simp at hs6
  have o_q60 : Own (w6) (w.heap.size) 0 (.int .i64 0) := ownJ; have q60 := o_q60.1; have f_q60 := o_q60.2; have o_q61 : Own (w6) (w.heap.size) 1 (.int .i64 0) := ownJ; have q61 := o_q61.1; have f_q61 := o_q61.2
  go_wp2_with fail
  refine (N.out _).mono ?_
  rintro e w7 ⟨rfl, hb7⟩
  have hs7 : _ ≤ w7.heap.size := hb7.size
  try simp at hs7
  have o_q70 : Own (w7) (w.heap.size) 0 (.int .i64 0) := ownJ; have q70 := o_q70.1; have f_q70 := o_q70.2; have o_q71 : Own (w7) (w.heap.size) 1 (.int .i64 0) := ownJ; have q71 := o_q71.1; have f_q71 := o_q71.2
  go_wp2_with fail
  refine (M.out _).mono ?_
  rintro e w8 ⟨rfl, hb8⟩
  have hs8 : _ ≤ w8.heap.size := hb8.size
  try simp at hs8
  have o_q80 : Own (w8) (w.heap.size) 0 (.int .i64 0) := ownJ; obtain ⟨q80, f_q80⟩ := o_q80; have o_q81 : Own (w8) (w.heap.size) 1 (.int .i64 0) := ownJ; obtain ⟨q81, f_q81⟩ := o_q81
  go_wp2
  exact bodyPost_ret (v := .agg #[.int .i64 (z).1, .int .i64 (z).2]) (by simp [results, Tryz.results83, go_sem, q80, q81]) rfl ⟨by rw [E.out], belB⟩
theorem l06At_3 (n q : Int) (hn : In64 n) (q0 : 0 ≤ q) (q1 : q ≤ 1) (a : Ang n) (hm : (qrt n + q) % 4 = 3) (w : World) : Calls Tryz.prog 83 #[.int .i64 n, .int .i64 q] w fun e w' =>
    e = .returned (.agg #[.int .i64 (sinA n q).1, .int .i64 (sinA n q).2]) ∧ Below w.heap.size w w' := by
  have C := Lib.hid (fun w => l06Angle_any n w)
  have B := Lib.hid (show ang n = true from decide_eq_true a)
  have kq := qrt_in n
  have E := Lib.hid (show sinA n q = metI (negI (cosS (resA n))) rng by unfold sinA; rw [if_pos a, hm]; simp [quaS])
  have K := Lib.hid (fun w => sQuarterOf_any n hn w)
  have T := Lib.hid (fun w => sTurnI_any (qrt n) w)
  have S := Lib.hid (fun w => sSubI_any (n, n) (turI (qrt n)) w)
  have hR := Lib.hid (show subI (n, n) (turI (qrt n)) = resA n from rfl)
  rw [hR.out] at S
  have W := Lib.hid (fun w => sCosSeries_any (resA n) w)
  have N := Lib.hid (fun w => sNegI_any (cosS (resA n)) w)
  have ho : olpI (negI (cosS (resA n))) rng = true := by have := sinA_meets a 3; simpa [quaS] using this
  have M := Lib.hid (fun w => l06Meet_any (negI (cosS (resA n))) ho w)
  have AM : bits .and .i64 (qrt n + q) 3 = 3 := by rw [and_mask2]; exact hm
  clear a hR hm hn ho
  generalize metI (negI (cosS (resA n))) rng = z at *
  generalize resA n = r at *
  generalize turI (qrt n) = t at *
  obtain ⟨k0, k1⟩ := kq
  generalize qrt n = k at *
  generalize sinA n q = Y at *
  go_enter Tryz.func83, Tryz.ntmps83
  go_wp2_with fail
  refine (C.out _).mono ?_
  rintro e w1 ⟨rfl, hb1⟩
  have hs1 : _ ≤ w1.heap.size := hb1.size
  try simp at hs1
  rw [B.out]
  go_wp2_with fail
  refine (K.out _).mono ?_
  rintro e w2 ⟨rfl, hb2⟩
  have hs2 : _ ≤ w2.heap.size := hb2.size
  try simp at hs2
  go_wp2_with fail
  refine (l05At_any n _).mono ?_
  rintro e w3 ⟨rfl, hb3⟩
  have hs3 : _ ≤ w3.heap.size := hb3.size
  try simp at hs3
  go_wp2_with fail
  refine (T.out _).mono ?_
  rintro e w4 ⟨rfl, hb4⟩
  have hs4 : _ ≤ w4.heap.size := hb4.size
  try simp at hs4
  go_wp2_with fail
  refine (S.out _).mono ?_
  rintro e w5 ⟨rfl, hb5⟩
  have hs5 : _ ≤ w5.heap.size := hb5.size
  try simp at hs5
  have o_q50 : Own (w5) (w.heap.size) 0 (.int .i64 0) := ownJ; have q50 := o_q50.1; have f_q50 := o_q50.2; have o_q51 : Own (w5) (w.heap.size) 1 (.int .i64 0) := ownJ; have q51 := o_q51.1; have f_q51 := o_q51.2
  have zz5 : w.heap.size < w5.heap.size := World.block_lt_of_cell? _ _ q50; obtain ⟨zz5a, zz5b, zz5c, zz5d, zz5e, zz5f, zz5g, zz5h, zz5i⟩ := below_more zz5; have zn5 : ¬ w.heap.size = w5.heap.size := Nat.ne_of_lt zz5; have zm5 : ¬ w5.heap.size = w.heap.size := Nat.ne_of_gt zz5
  go_wp2_with fail
  refine (W.out _).mono ?_
  rintro e w6 ⟨rfl, hb6⟩
  have hs6 : _ ≤ w6.heap.size := hb6.size
  try simp at hs6
  have o_q60 : Own (w6) (w.heap.size) 0 (.int .i64 0) := ownJ; have q60 := o_q60.1; have f_q60 := o_q60.2; have o_q61 : Own (w6) (w.heap.size) 1 (.int .i64 0) := ownJ; have q61 := o_q61.1; have f_q61 := o_q61.2
  go_wp2_with fail
  refine (N.out _).mono ?_
  rintro e w7 ⟨rfl, hb7⟩
  have hs7 : _ ≤ w7.heap.size := hb7.size
  try simp at hs7
  have o_q70 : Own (w7) (w.heap.size) 0 (.int .i64 0) := ownJ; have q70 := o_q70.1; have f_q70 := o_q70.2; have o_q71 : Own (w7) (w.heap.size) 1 (.int .i64 0) := ownJ; have q71 := o_q71.1; have f_q71 := o_q71.2
  go_wp2_with fail
  refine (M.out _).mono ?_
  rintro e w8 ⟨rfl, hb8⟩
  have hs8 : _ ≤ w8.heap.size := hb8.size
  try simp at hs8
  have o_q80 : Own (w8) (w.heap.size) 0 (.int .i64 0) := ownJ; obtain ⟨q80, f_q80⟩ := o_q80; have o_q81 : Own (w8) (w.heap.size) 1 (.int .i64 0) := ownJ; obtain ⟨q81, f_q81⟩ := o_q81
  go_wp2
  exact bodyPost_ret (v := .agg #[.int .i64 (z).1, .int .i64 (z).2]) (by simp [results, Tryz.results83, go_sem, q80, q81]) rfl ⟨by rw [E.out], belB⟩
theorem l06At_any (n q : Int) (hn : In64 n) (q0 : 0 ≤ q) (q1 : q ≤ 1) (w : World) : Calls Tryz.prog 83 #[.int .i64 n, .int .i64 q] w fun e w' =>
    e = .returned (.agg #[.int .i64 (sinA n q).1, .int .i64 (sinA n q).2]) ∧ Below w.heap.size w w' := by
  by_cases a : Ang n
  · have m : (qrt n + q) % 4 = 0 ∨ (qrt n + q) % 4 = 1 ∨ (qrt n + q) % 4 = 2 ∨ (qrt n + q) % 4 = 3 := by omega
    rcases m with m | m | m | m
    · exact l06At_0 n q hn q0 q1 a m w
    · exact l06At_1 n q hn q0 q1 a m w
    · exact l06At_2 n q hn q0 q1 a m w
    · exact l06At_3 n q hn q0 q1 a m w
  · exact l06At_no n q a w
theorem sSinAt_any (n : Int) (hn : In64 n) (w : World) : Calls Tryz.prog 34 #[.int .i64 n] w fun e w' =>
    e = .returned (.agg #[.int .i64 (sinA n 0).1, .int .i64 (sinA n 0).2]) ∧ Below w.heap.size w w' := by
  have S := Lib.hid (fun w => l06At_any n 0 hn (by omega) (by omega) w)
  generalize sinA n 0 = r at *
  go_enter Tryz.func34, Tryz.ntmps34
  go_wp2_with fail
  refine (S.out _).mono ?_
  rintro e w1 ⟨rfl, hb1⟩
  have hs1 : _ ≤ w1.heap.size := hb1.size
  try simp at hs1
  have o_qr10 : Own (w1) (w.heap.size) 0 (.int .i64 0) := ownJ; obtain ⟨qr10, f_qr10⟩ := o_qr10; have o_qr11 : Own (w1) (w.heap.size) 1 (.int .i64 0) := ownJ; obtain ⟨qr11, f_qr11⟩ := o_qr11
  go_wp2
  exact bodyPost_ret (v := .agg #[.int .i64 (r).1, .int .i64 (r).2]) (by simp [results, Tryz.results34, go_sem, qr10, qr11]) rfl ⟨rfl, belB⟩
theorem sCosAt_any (n : Int) (hn : In64 n) (w : World) : Calls Tryz.prog 36 #[.int .i64 n] w fun e w' =>
    e = .returned (.agg #[.int .i64 (sinA n 1).1, .int .i64 (sinA n 1).2]) ∧ Below w.heap.size w w' := by
  have S := Lib.hid (fun w => l06At_any n 1 hn (by omega) (by omega) w)
  generalize sinA n 1 = r at *
  go_enter Tryz.func36, Tryz.ntmps36
  go_wp2_with fail
  refine (S.out _).mono ?_
  rintro e w1 ⟨rfl, hb1⟩
  have hs1 : _ ≤ w1.heap.size := hb1.size
  try simp at hs1
  have o_qr10 : Own (w1) (w.heap.size) 0 (.int .i64 0) := ownJ; obtain ⟨qr10, f_qr10⟩ := o_qr10; have o_qr11 : Own (w1) (w.heap.size) 1 (.int .i64 0) := ownJ; obtain ⟨qr11, f_qr11⟩ := o_qr11
  go_wp2
  exact bodyPost_ret (v := .agg #[.int .i64 (r).1, .int .i64 (r).2]) (by simp [results, Tryz.results36, go_sem, qr10, qr11]) rfl ⟨rfl, belB⟩
end Go.Proofs.YtnhpacaidcjaoaaGreatDoor
namespace Go.Proofs.YtnhpacaidcjaoaaGreatDoor
open Go.ChangeShapes Go.WideShapes Go.ChangeAt Go.RowKit
set_option linter.unusedVariables false
set_option maxRecDepth 100000
set_option linter.unusedSimpArgs false
set_option maxHeartbeats 1000000
/-- Is an interval bounded by two angles? -/
def fitA (x : Iv) : Bool := bnd x && ang x.1 && ang x.2
def tanA (n : Int) : Iv := divI (sinA n 0) (sinA n 1)
theorem sinA_res (n q : Int) : Res (sinA n q) := by
  unfold sinA; split
  · rename_i a
    rcases res_or (quaS_res ((qrt n + q) % 4) (resA n)) with B | B
    · have o := sinA_meets a ((qrt n + q) % 4)
      have k := (meet_both B rng_bnd).1 o
      rw [(meet_yes B rng_bnd k).1]
      apply can_yes
      unfold Bnd rng at *
      simp only at *
      omega
    · rw [B, (meet_left whl_not rng_bnd).1]; exact can_yes rng_bnd
  · exact can_yes rng_bnd
theorem hasAngles_any (x : Iv) (w : World) : Calls Tryz.prog 80 #[.agg #[.int .i64 x.1, .int .i64 x.2]] w fun e w' =>
    e = .returned (.bool (fitA x)) ∧ Below w.heap.size w w' := by
  have CV := Lib.hid (fun w => ValidInterval_any x w)
  have CA := Lib.hid (fun w => isAngle_any x.1 w)
  have CB := Lib.hid (fun w => isAngle_any x.2 w)
  have E := Lib.hid (show fitA x = (bnd x && ang x.1 && ang x.2) from rfl)
  generalize fitA x = r at *
  generalize bnd x = c1 at *
  generalize ang x.1 = c2 at *
  generalize ang x.2 = c3 at *
  cases c1
  · go_enter Tryz.func80, Tryz.ntmps80
    go_wp2_with fail
    refine (CV.out _).mono ?_
    rintro e w1 ⟨rfl, hb1⟩
    have hs1 : _ ≤ w1.heap.size := hb1.size
    try simp at hs1
    have o_x10 : Own (w1) (w.heap.size) 0 (.int .i64 x.1) := ownJ; have x10 := o_x10.1; have f_x10 := o_x10.2; have o_x11 : Own (w1) (w.heap.size) 1 (.int .i64 x.2) := ownJ; have x11 := o_x11.1; have f_x11 := o_x11.2
    go_wp2
    go_ret
    exact ⟨(by first | (rw [E.out]; done) | (rw [E.out]; rfl) | (simp [E.out]; done)), belB⟩
  · cases c2
    · go_enter Tryz.func80, Tryz.ntmps80
      go_wp2_with fail
      refine (CV.out _).mono ?_
      rintro e w1 ⟨rfl, hb1⟩
      have hs1 : _ ≤ w1.heap.size := hb1.size
      try simp at hs1
      have o_x10 : Own (w1) (w.heap.size) 0 (.int .i64 x.1) := ownJ; have x10 := o_x10.1; have f_x10 := o_x10.2; have o_x11 : Own (w1) (w.heap.size) 1 (.int .i64 x.2) := ownJ; have x11 := o_x11.1; have f_x11 := o_x11.2
      go_wp2_with fail
      refine (CA.out _).mono ?_
      rintro e w2 ⟨rfl, hb2⟩
      have hs2 : _ ≤ w2.heap.size := hb2.size
      try simp at hs2
      have o_x20 : Own (w2) (w.heap.size) 0 (.int .i64 x.1) := ownJ; have x20 := o_x20.1; have f_x20 := o_x20.2; have o_x21 : Own (w2) (w.heap.size) 1 (.int .i64 x.2) := ownJ; have x21 := o_x21.1; have f_x21 := o_x21.2
      go_wp2
      go_ret
      exact ⟨(by first | (rw [E.out]; done) | (rw [E.out]; rfl) | (simp [E.out]; done)), belB⟩
    · cases c3
      · go_enter Tryz.func80, Tryz.ntmps80
        go_wp2_with fail
        refine (CV.out _).mono ?_
        rintro e w1 ⟨rfl, hb1⟩
        have hs1 : _ ≤ w1.heap.size := hb1.size
        try simp at hs1
        have o_x10 : Own (w1) (w.heap.size) 0 (.int .i64 x.1) := ownJ; have x10 := o_x10.1; have f_x10 := o_x10.2; have o_x11 : Own (w1) (w.heap.size) 1 (.int .i64 x.2) := ownJ; have x11 := o_x11.1; have f_x11 := o_x11.2
        go_wp2_with fail
        refine (CA.out _).mono ?_
        rintro e w2 ⟨rfl, hb2⟩
        have hs2 : _ ≤ w2.heap.size := hb2.size
        try simp at hs2
        have o_x20 : Own (w2) (w.heap.size) 0 (.int .i64 x.1) := ownJ; have x20 := o_x20.1; have f_x20 := o_x20.2; have o_x21 : Own (w2) (w.heap.size) 1 (.int .i64 x.2) := ownJ; have x21 := o_x21.1; have f_x21 := o_x21.2
        go_wp2_with fail
        refine (CB.out _).mono ?_
        rintro e w3 ⟨rfl, hb3⟩
        have hs3 : _ ≤ w3.heap.size := hb3.size
        try simp at hs3
        go_wp2
        go_ret
        exact ⟨(by first | (rw [E.out]; done) | (rw [E.out]; rfl) | (simp [E.out]; done)), belB⟩
      · go_enter Tryz.func80, Tryz.ntmps80
        go_wp2_with fail
        refine (CV.out _).mono ?_
        rintro e w1 ⟨rfl, hb1⟩
        have hs1 : _ ≤ w1.heap.size := hb1.size
        try simp at hs1
        have o_x10 : Own (w1) (w.heap.size) 0 (.int .i64 x.1) := ownJ; have x10 := o_x10.1; have f_x10 := o_x10.2; have o_x11 : Own (w1) (w.heap.size) 1 (.int .i64 x.2) := ownJ; have x11 := o_x11.1; have f_x11 := o_x11.2
        go_wp2_with fail
        refine (CA.out _).mono ?_
        rintro e w2 ⟨rfl, hb2⟩
        have hs2 : _ ≤ w2.heap.size := hb2.size
        try simp at hs2
        have o_x20 : Own (w2) (w.heap.size) 0 (.int .i64 x.1) := ownJ; have x20 := o_x20.1; have f_x20 := o_x20.2; have o_x21 : Own (w2) (w.heap.size) 1 (.int .i64 x.2) := ownJ; have x21 := o_x21.1; have f_x21 := o_x21.2
        go_wp2_with fail
        refine (CB.out _).mono ?_
        rintro e w3 ⟨rfl, hb3⟩
        have hs3 : _ ≤ w3.heap.size := hb3.size
        try simp at hs3
        go_wp2
        go_ret
        exact ⟨(by first | (rw [E.out]; done) | (rw [E.out]; rfl) | (simp [E.out]; done)), belB⟩
theorem l06Fits_any (x : Iv) (w : World) : Calls Tryz.prog 77 #[.agg #[.int .i64 x.1, .int .i64 x.2]] w fun e w' =>
    e = .returned (.bool (fitA x)) ∧ Below w.heap.size w w' := by
  have CV := Lib.hid (fun w => sValidInterval_any x w)
  have CA := Lib.hid (fun w => l06Angle_any x.1 w)
  have CB := Lib.hid (fun w => l06Angle_any x.2 w)
  have E := Lib.hid (show fitA x = (bnd x && ang x.1 && ang x.2) from rfl)
  generalize fitA x = r at *
  generalize bnd x = c1 at *
  generalize ang x.1 = c2 at *
  generalize ang x.2 = c3 at *
  cases c1
  · go_enter Tryz.func77, Tryz.ntmps77
    go_wp2_with fail
    refine (CV.out _).mono ?_
    rintro e w1 ⟨rfl, hb1⟩
    have hs1 : _ ≤ w1.heap.size := hb1.size
    try simp at hs1
    have o_x10 : Own (w1) (w.heap.size) 0 (.int .i64 x.1) := ownJ; have x10 := o_x10.1; have f_x10 := o_x10.2; have o_x11 : Own (w1) (w.heap.size) 1 (.int .i64 x.2) := ownJ; have x11 := o_x11.1; have f_x11 := o_x11.2
    go_wp2
    go_ret
    exact ⟨(by first | (rw [E.out]; done) | (rw [E.out]; rfl) | (simp [E.out]; done)), belB⟩
  · cases c2
    · go_enter Tryz.func77, Tryz.ntmps77
      go_wp2_with fail
      refine (CV.out _).mono ?_
      rintro e w1 ⟨rfl, hb1⟩
      have hs1 : _ ≤ w1.heap.size := hb1.size
      try simp at hs1
      have o_x10 : Own (w1) (w.heap.size) 0 (.int .i64 x.1) := ownJ; have x10 := o_x10.1; have f_x10 := o_x10.2; have o_x11 : Own (w1) (w.heap.size) 1 (.int .i64 x.2) := ownJ; have x11 := o_x11.1; have f_x11 := o_x11.2
      go_wp2_with fail
      refine (CA.out _).mono ?_
      rintro e w2 ⟨rfl, hb2⟩
      have hs2 : _ ≤ w2.heap.size := hb2.size
      try simp at hs2
      have o_x20 : Own (w2) (w.heap.size) 0 (.int .i64 x.1) := ownJ; have x20 := o_x20.1; have f_x20 := o_x20.2; have o_x21 : Own (w2) (w.heap.size) 1 (.int .i64 x.2) := ownJ; have x21 := o_x21.1; have f_x21 := o_x21.2
      go_wp2
      go_ret
      exact ⟨(by first | (rw [E.out]; done) | (rw [E.out]; rfl) | (simp [E.out]; done)), belB⟩
    · cases c3
      · go_enter Tryz.func77, Tryz.ntmps77
        go_wp2_with fail
        refine (CV.out _).mono ?_
        rintro e w1 ⟨rfl, hb1⟩
        have hs1 : _ ≤ w1.heap.size := hb1.size
        try simp at hs1
        have o_x10 : Own (w1) (w.heap.size) 0 (.int .i64 x.1) := ownJ; have x10 := o_x10.1; have f_x10 := o_x10.2; have o_x11 : Own (w1) (w.heap.size) 1 (.int .i64 x.2) := ownJ; have x11 := o_x11.1; have f_x11 := o_x11.2
        go_wp2_with fail
        refine (CA.out _).mono ?_
        rintro e w2 ⟨rfl, hb2⟩
        have hs2 : _ ≤ w2.heap.size := hb2.size
        try simp at hs2
        have o_x20 : Own (w2) (w.heap.size) 0 (.int .i64 x.1) := ownJ; have x20 := o_x20.1; have f_x20 := o_x20.2; have o_x21 : Own (w2) (w.heap.size) 1 (.int .i64 x.2) := ownJ; have x21 := o_x21.1; have f_x21 := o_x21.2
        go_wp2_with fail
        refine (CB.out _).mono ?_
        rintro e w3 ⟨rfl, hb3⟩
        have hs3 : _ ≤ w3.heap.size := hb3.size
        try simp at hs3
        go_wp2
        go_ret
        exact ⟨(by first | (rw [E.out]; done) | (rw [E.out]; rfl) | (simp [E.out]; done)), belB⟩
      · go_enter Tryz.func77, Tryz.ntmps77
        go_wp2_with fail
        refine (CV.out _).mono ?_
        rintro e w1 ⟨rfl, hb1⟩
        have hs1 : _ ≤ w1.heap.size := hb1.size
        try simp at hs1
        have o_x10 : Own (w1) (w.heap.size) 0 (.int .i64 x.1) := ownJ; have x10 := o_x10.1; have f_x10 := o_x10.2; have o_x11 : Own (w1) (w.heap.size) 1 (.int .i64 x.2) := ownJ; have x11 := o_x11.1; have f_x11 := o_x11.2
        go_wp2_with fail
        refine (CA.out _).mono ?_
        rintro e w2 ⟨rfl, hb2⟩
        have hs2 : _ ≤ w2.heap.size := hb2.size
        try simp at hs2
        have o_x20 : Own (w2) (w.heap.size) 0 (.int .i64 x.1) := ownJ; have x20 := o_x20.1; have f_x20 := o_x20.2; have o_x21 : Own (w2) (w.heap.size) 1 (.int .i64 x.2) := ownJ; have x21 := o_x21.1; have f_x21 := o_x21.2
        go_wp2_with fail
        refine (CB.out _).mono ?_
        rintro e w3 ⟨rfl, hb3⟩
        have hs3 : _ ≤ w3.heap.size := hb3.size
        try simp at hs3
        go_wp2
        go_ret
        exact ⟨(by first | (rw [E.out]; done) | (rw [E.out]; rfl) | (simp [E.out]; done)), belB⟩
theorem tangentAt_any (n : Int) (hn : In64 n) (w : World) (hg : Glo w) : Calls Tryz.prog 82 #[.int .i64 n] w fun e w' =>
    e = .returned (.agg #[.int .i64 (tanA n).1, .int .i64 (tanA n).2]) ∧ Below w.heap.size w w' := by
  have S := Lib.hid (fun w hg => SinAt_any n hn w hg)
  have C := Lib.hid (fun w hg => CosAt_any n hn w hg)
  have D := Lib.hid (fun w => DivI_any (sinA n 0) (sinA n 1) (res_ok (sinA_res n 0)) (res_ok (sinA_res n 1)) w)
  have E := Lib.hid (show tanA n = divI (sinA n 0) (sinA n 1) from rfl)
  generalize tanA n = t at *
  generalize divI (sinA n 0) (sinA n 1) = d at *
  generalize sinA n 0 = s at *
  generalize sinA n 1 = c at *
  go_enter Tryz.func82, Tryz.ntmps82
  go_wp2_with fail
  refine (S.out _ (by repeat (first | (with_reducible assumption) | (with_reducible refine Glo.drew ?_) | (with_reducible refine Glo.kept ?_ (by assumption)) | (with_reducible refine Glo.alloc ?_ _)))).mono ?_
  rintro e w1 ⟨rfl, hb1⟩
  have hs1 : _ ≤ w1.heap.size := hb1.size
  try simp at hs1
  have o_r10 : Own (w1) (w.heap.size) 0 (.int .i64 0) := ownJ; have r10 := o_r10.1; have f_r10 := o_r10.2; have o_r11 : Own (w1) (w.heap.size) 1 (.int .i64 0) := ownJ; have r11 := o_r11.1; have f_r11 := o_r11.2
  go_wp2_with fail
  refine (C.out _ (by repeat (first | (with_reducible assumption) | (with_reducible refine Glo.drew ?_) | (with_reducible refine Glo.kept ?_ (by assumption)) | (with_reducible refine Glo.alloc ?_ _)))).mono ?_
  rintro e w2 ⟨rfl, hb2⟩
  have hs2 : _ ≤ w2.heap.size := hb2.size
  try simp at hs2
  have o_r20 : Own (w2) (w.heap.size) 0 (.int .i64 0) := ownJ; have r20 := o_r20.1; have f_r20 := o_r20.2; have o_r21 : Own (w2) (w.heap.size) 1 (.int .i64 0) := ownJ; have r21 := o_r21.1; have f_r21 := o_r21.2
  go_wp2_with fail
  refine (D.out _).mono ?_
  rintro e w3 ⟨rfl, hb3⟩
  have hs3 : _ ≤ w3.heap.size := hb3.size
  try simp at hs3
  have o_r30 : Own (w3) (w.heap.size) 0 (.int .i64 0) := ownJ; obtain ⟨r30, f_r30⟩ := o_r30; have o_r31 : Own (w3) (w.heap.size) 1 (.int .i64 0) := ownJ; obtain ⟨r31, f_r31⟩ := o_r31
  go_wp2
  exact bodyPost_ret (v := .agg #[.int .i64 (d).1, .int .i64 (d).2]) (by simp [results, Tryz.results82, go_sem, r30, r31]) rfl ⟨by rw [E.out], belB⟩
end Go.Proofs.YtnhpacaidcjaoaaGreatDoor
namespace Go.Proofs.YtnhpacaidcjaoaaGreatDoor
open Go.RowKit
set_option linter.unusedVariables false
set_option maxRecDepth 100000
set_option linter.unusedSimpArgs false
set_option maxHeartbeats 1000000

theorem olp_not {x y : Iv} (hx : Bnd x) (hy : Bnd y) (h : x.2 < y.1 ∨ y.2 < x.1) : olpI x y = false := by
  unfold olpI; rw [can_yes hx, can_yes hy]; exact decide_eq_false (by omega)
theorem tur_about {n : Int} (h : Ang n) : (turI (qrt n - 1)).2 < n ∧ n < (turI (qrt n + 1)).1 := by
  have q := qrt_in n
  have e : qrt n = (n + 3373259426) / 6746518852 := if_pos h
  unfold Ang at h
  have k1 : qrt n * 6746518852 ≤ n + 3373259426 := by rw [e]; omega
  have k2 : n + 3373259426 < qrt n * 6746518852 + 6746518852 := by rw [e]; omega
  have t1 := turI_in (k := qrt n - 1) (by omega) (by omega)
  have t2 := turI_in (k := qrt n + 1) (by omega) (by omega)
  have e1 := turM_ends (k := qrt n - 1) (by omega) (by omega)
  have e2 := turM_ends (k := qrt n + 1) (by omega) (by omega)
  rw [t1, t2]
  clear e t1 t2
  generalize qrt n = k at *
  refine ⟨?_, ?_⟩
  · rcases e1 with ⟨z, e⟩ | ⟨s, p, e, p0, p1⟩ | ⟨s, p, e, p0, p1⟩ <;> rw [e] <;> simp only <;> omega
  · rcases e2 with ⟨z, e⟩ | ⟨s, p, e, p0, p1⟩ | ⟨s, p, e, p0, p1⟩ <;> rw [e] <;> simp only <;> omega
/-- The quarter turns beside those of the ends do not touch the interval. -/
theorem tur_beside {x : Iv} (B : Bnd x) (h1 : Ang x.1) (h2 : Ang x.2) : olpI (turI (qrt x.1 - 1)) x = false ∧ olpI (turI (qrt x.2 + 1)) x = false := by
  have a := tur_about h1
  have b := tur_about h2
  have q1 := qrt_in x.1
  have q2 := qrt_in x.2
  exact ⟨olp_not (tur_bnd (by omega) (by omega)) B (.inl a.1), olp_not (tur_bnd (by omega) (by omega)) B (.inr b.2)⟩
theorem qrt_mono {m n : Int} (h1 : Ang m) (h2 : Ang n) (h : m ≤ n) : qrt m ≤ qrt n := by
  unfold qrt; rw [if_pos h1, if_pos h2]; omega
/-- What each quarter turn that touches the interval adds. -/
def ovS (x : Iv) (q : Int) (s : Iv) (k : Int) : Iv :=
  if olpI (turI k) x = true then (if (k + q) % 4 = 1 then hulI s (intI 1) else if (k + q) % 4 = 3 then hulI s (intI (-1)) else s) else s
def ovF (x : Iv) (q : Int) (s : Iv) (lo : Int) : Nat → Iv
  | 0 => s
  | j + 1 => ovS x q (ovF x q s lo j) (lo + j)
/-- The ring is not widened. -/
theorem hul_ring {v : Int} (h : v = 1 ∨ v = -1) : hulI rng (intI v) = rng := by
  rcases h with rfl | rfl
  · rw [intI_yes (by omega) (by omega)]; decide
  · rw [intI_yes (by omega) (by omega)]; decide
theorem ov_ring (x : Iv) (q k : Int) : ovS x q rng k = rng := by
  unfold ovS
  split
  · split
    · exact hul_ring (.inl rfl)
    · split
      · exact hul_ring (.inr rfl)
      · rfl
  · rfl
theorem ovF_ring (x : Iv) (q lo : Int) (j : Nat) : ovF x q rng lo j = rng := by
  induction j with
  | zero => rfl
  | succ j ih => show ovS x q (ovF x q rng lo j) (lo + j) = rng; rw [ih, ov_ring]
theorem ov_skip {x : Iv} {q : Int} {s : Iv} {k : Int} (h : olpI (turI k) x = false) : ovS x q s k = s := by
  unfold ovS; rw [if_neg (by rw [h]; simp)]
/-- A first step that adds nothing may be left out. -/
theorem ovF_shift {x : Iv} {q : Int} {s : Iv} {lo : Int} (h : olpI (turI lo) x = false) (j : Nat) : ovF x q s lo (j + 1) = ovF x q s (lo + 1) j := by
  induction j with
  | zero => show ovS x q s (lo + ((0 : Nat) : Int)) = s; exact ov_skip (by simpa using h)
  | succ j ih =>
    show ovS x q (ovF x q s lo (j + 1)) (lo + ((j + 1 : Nat) : Int)) = ovS x q (ovF x q s (lo + 1) j) (lo + 1 + j)
    rw [ih, show lo + ((j + 1 : Nat) : Int) = lo + 1 + j by omega]
theorem ovF_last {x : Iv} {q : Int} {s : Iv} {lo : Int} {j : Nat} (h : olpI (turI (lo + j)) x = false) : ovF x q s lo (j + 1) = ovF x q s lo j := ov_skip h
end Go.Proofs.YtnhpacaidcjaoaaGreatDoor
namespace Go.Proofs.YtnhpacaidcjaoaaGreatDoor
open Go.ChangeShapes Go.WideShapes Go.ChangeAt Go.RowKit
set_option linter.unusedVariables false
set_option maxRecDepth 100000
set_option linter.unusedSimpArgs false
set_option maxHeartbeats 1000000

/-- What holds as long as one operation has not come up. -/
def OneS (s : Nat) (C : World → Prop) (L : Array Bool) (u : World) : Prop := L.getD s true = false → C u
theorem OneS.less {s i : Nat} {C : World → Prop} {L : Array Bool} {u : World} (h : i ≠ s) (k : OneS s C (L.setIfInBounds i true) u) : OneS s C L u := by
  unfold OneS at k ⊢; rw [getD_set_ne true h] at k; exact k
/-- A number of quarter turns that may come up. -/
abbrev QK := { k : Int // -200 ≤ k ∧ k ≤ 200 }
def adS (q : Int) (s : Iv) (k : Int) : Iv := if (k + q) % 4 = 1 then hulI s (intI 1) else if (k + q) % 4 = 3 then hulI s (intI (-1)) else s
theorem adS_ring (q k : Int) : adS q rng k = rng := by
  unfold adS
  split
  · exact hul_ring (.inl rfl)
  · split
    · exact hul_ring (.inr rfl)
    · rfl
theorem ov_ad {x : Iv} {q : Int} {s : Iv} {k : Int} (h : olpI (turI k) x = true) : ovS x q s k = adS q s k := if_pos h
/-- How many quarter turns are asked. -/
def cnt (x : Iv) : Nat := (qrt x.2 - qrt x.1 + 1).toNat
theorem qk_in (x : Iv) (j : Nat) (h : j < cnt x) : -200 ≤ qrt x.1 + (j : Int) ∧ qrt x.1 + (j : Int) ≤ 200 := by
  have a := qrt_in x.1
  have b := qrt_in x.2
  unfold cnt at h
  omega
/-- The quarter turns that touch the interval among the first j. -/
def qkP (x : Iv) : Nat → List QK
  | 0 => []
  | j + 1 => if h : olpI (turI (qrt x.1 + (j : Int))) x = true ∧ j < cnt x then qkP x j ++ [⟨qrt x.1 + (j : Int), qk_in x j h.2⟩] else qkP x j
def qkL (x : Iv) : List QK := qkP x (cnt x)
theorem qkP_yes {x : Iv} {j : Nat} (h : olpI (turI (qrt x.1 + (j : Int))) x = true) (k : j < cnt x) : qkP x (j + 1) = qkP x j ++ [⟨qrt x.1 + (j : Int), qk_in x j k⟩] := dif_pos ⟨h, k⟩
theorem qkP_no {x : Iv} {j : Nat} (h : olpI (turI (qrt x.1 + (j : Int))) x = false) : qkP x (j + 1) = qkP x j := dif_neg (fun k => by rw [h] at k; cases k.1)
theorem qkP_len (x : Iv) (j : Nat) : (qkP x j).length ≤ j := by
  induction j with
  | zero => exact Nat.le_refl _
  | succ j ih =>
    unfold qkP
    split
    · simp; omega
    · omega
theorem qkP_pre (x : Iv) (i d : Nat) : qkP x i <+: qkP x (i + d) := by
  induction d with
  | zero => exact List.prefix_refl _
  | succ d ih =>
    refine ih.trans ?_
    show qkP x (i + d) <+: qkP x (i + d + 1)
    rw [qkP]
    split
    · exact List.prefix_append _ _
    · exact List.prefix_refl _
theorem qkP_all {x : Iv} {j : Nat} (h : j ≤ cnt x) : qkP x j <+: qkL x := by
  have := qkP_pre x j (cnt x - j)
  rw [Nat.add_sub_cancel' h] at this
  exact this
theorem qkP_mem {x : Iv} (j : Nat) (k : QK) : k ∈ qkP x j ↔ ∃ i : Nat, i < j ∧ i < cnt x ∧ k.1 = qrt x.1 + (i : Int) ∧ olpI (turI k.1) x = true := by
  induction j with
  | zero => simp [qkP]
  | succ j ih =>
    unfold qkP
    split
    · rename_i h
      rw [List.mem_append, ih]
      constructor
      · rintro (⟨i, h1, h2, h3, h4⟩ | h5)
        · exact ⟨i, by omega, h2, h3, h4⟩
        · simp only [List.mem_singleton] at h5
          subst h5
          exact ⟨j, by omega, h.2, rfl, h.1⟩
      · rintro ⟨i, h1, h2, h3, h4⟩
        by_cases e : i = j
        · subst e
          exact .inr (by simp only [List.mem_singleton]; exact Subtype.ext h3)
        · exact .inl ⟨i, by omega, h2, h3, h4⟩
    · rename_i h
      rw [ih]
      constructor
      · rintro ⟨i, h1, h2, h3, h4⟩
        exact ⟨i, by omega, h2, h3, h4⟩
      · rintro ⟨i, h1, h2, h3, h4⟩
        by_cases e : i = j
        · subst e
          exact absurd ⟨by rw [← h3]; exact h4, h2⟩ h
        · exact ⟨i, by omega, h2, h3, h4⟩
/-- What the quarter turns of a list add. -/
def rsF (q : Int) (s : Iv) (l : List QK) : Iv := l.foldl (fun s k => adS q s k.1) s
theorem rsF_snoc (q : Int) (s : Iv) (l : List QK) (k : QK) : rsF q s (l ++ [k]) = adS q (rsF q s l) k.1 := by simp [rsF]
theorem rsF_ring (q : Int) (l : List QK) : rsF q rng l = rng := by
  induction l with
  | nil => rfl
  | cons k l ih => show rsF q (adS q rng k.1) l = rng; rw [adS_ring]; exact ih
theorem rsF_stays {q : Int} {s : Iv} {l m : List QK} (h : rsF q s l = rng) (p : l <+: m) : rsF q s m = rng := by
  obtain ⟨t, rfl⟩ := p
  have e : rsF q s (l ++ t) = rsF q (rsF q s l) t := by simp [rsF]
  rw [e, h]; exact rsF_ring q t
theorem rsF_ov (x : Iv) (q : Int) (s : Iv) (j : Nat) (h : j ≤ cnt x) : rsF q s (qkP x j) = ovF x q s (qrt x.1) j := by
  induction j with
  | zero => rfl
  | succ j ih =>
    show _ = ovS x q (ovF x q s (qrt x.1) j) (qrt x.1 + (j : Int))
    rw [← ih (by omega)]
    cases o : olpI (turI (qrt x.1 + (j : Int))) x
    · rw [qkP_no o, ov_skip o]
    · rw [qkP_yes o (by omega), rsF_snoc, ov_ad o]
/-- The sines of an interval, turned forward. -/
def sinV (x : Iv) (q : Int) : Iv := if fitA x = true then rsF q (hulI (sinA x.1 q) (sinA x.2 q)) (qkL x) else rng
theorem fit_parts {x : Iv} (h : fitA x = true) : Bnd x ∧ Ang x.1 ∧ Ang x.2 := by
  unfold fitA at h
  rw [Bool.and_eq_true, Bool.and_eq_true] at h
  exact ⟨of_decide_eq_true h.1.1, of_decide_eq_true h.1.2, of_decide_eq_true h.2⟩
theorem cnt_val {x : Iv} (h : fitA x = true) : ((cnt x : Nat) : Int) = qrt x.2 - qrt x.1 + 1 := by
  obtain ⟨B, a, b⟩ := fit_parts h
  have := qrt_mono a b B.2.1
  unfold cnt; omega
/-- The model asks one quarter turn more on each side: none of both touches the interval. -/
theorem sinV_model {x : Iv} (q : Int) (h : fitA x = true) : ovF x q (hulI (sinA x.1 q) (sinA x.2 q)) (qrt x.1 - 1) (cnt x + 2) = sinV x q := by
  obtain ⟨B, a, b⟩ := fit_parts h
  obtain ⟨t1, t2⟩ := tur_beside B a b
  have c := cnt_val h
  have e : sinV x q = rsF q (hulI (sinA x.1 q) (sinA x.2 q)) (qkL x) := if_pos h
  rw [e]
  unfold qkL
  rw [rsF_ov x q _ _ (Nat.le_refl _)]
  rw [show cnt x + 2 = (cnt x + 1) + 1 from rfl, ovF_shift t1, show qrt x.1 - 1 + 1 = qrt x.1 by omega]
  exact ovF_last (by rw [show qrt x.1 + ((cnt x : Nat) : Int) = qrt x.2 + 1 by omega]; exact t2)
def oddB (k : Int) : Bool := decide (k % 2 = 1)
/-- The tangents of an interval. -/
def tanV (x : Iv) : Iv := if fitA x = true then (if (qkL x).any (fun k => oddB k.1) = true then whl else hulI (tanA x.1) (tanA x.2)) else whl
theorem tanV_odd {x : Iv} (h : fitA x = true) {k : QK} (m : k ∈ qkL x) (o : oddB k.1 = true) : tanV x = whl := by
  unfold tanV
  rw [if_pos h, if_pos (List.any_eq_true.2 ⟨k, m, o⟩)]
theorem tanV_even {x : Iv} (h : fitA x = true) (m : ∀ k ∈ qkL x, oddB k.1 = false) : tanV x = hulI (tanA x.1) (tanA x.2) := by
  unfold tanV
  rw [if_pos h, if_neg]
  intro k
  obtain ⟨j, j1, j2⟩ := List.any_eq_true.1 k
  rw [m j j1] at j2; cases j2
/-- A quarter turn that touches the interval is one of them. -/
theorem touch_in {x : Iv} (h : fitA x = true) {j : Nat} (hj : j < cnt x + 2) (o : olpI (turI (qrt x.1 - 1 + (j : Int))) x = true) : ∃ k : QK, k ∈ qkL x ∧ k.1 = qrt x.1 - 1 + (j : Int) := by
  obtain ⟨B, a, b⟩ := fit_parts h
  obtain ⟨t1, t2⟩ := tur_beside B a b
  have c := cnt_val h
  have j0 : j ≠ 0 := by
    intro e; subst e
    rw [show qrt x.1 - 1 + ((0 : Nat) : Int) = qrt x.1 - 1 by omega, t1] at o; cases o
  have j1 : j ≠ cnt x + 1 := by
    intro e; subst e
    rw [show qrt x.1 - 1 + ((cnt x + 1 : Nat) : Int) = qrt x.2 + 1 by omega, t2] at o; cases o
  have e : qrt x.1 - 1 + (j : Int) = qrt x.1 + ((j - 1 : Nat) : Int) := by omega
  refine ⟨⟨qrt x.1 - 1 + (j : Int), by rw [e]; exact qk_in x (j - 1) (by omega)⟩, ?_, rfl⟩
  unfold qkL
  rw [qkP_mem]
  exact ⟨j - 1, by omega, by omega, e, o⟩
theorem in_touch {x : Iv} (h : fitA x = true) {k : QK} (m : k ∈ qkL x) : ∃ j : Nat, j < cnt x + 2 ∧ k.1 = qrt x.1 - 1 + (j : Int) ∧ olpI (turI (qrt x.1 - 1 + (j : Int))) x = true := by
  unfold qkL at m
  rw [qkP_mem] at m
  obtain ⟨i, h1, h2, h3, h4⟩ := m
  have e : k.1 = qrt x.1 - 1 + ((i + 1 : Nat) : Int) := by omega
  exact ⟨i + 1, by omega, e, by rw [← e]; exact h4⟩
theorem and_unit (n : Int) : bits .and .i64 n 1 = n % 2 := by
  have h3 : (BitVec.ofInt 64 1).toNat = 2 ^ 1 - 1 := by decide
  have key : (BitVec.ofInt 64 n &&& BitVec.ofInt 64 1).toNat = (n % ((2 ^ 64 : Nat) : Int)).toNat % 2 ^ 1 := by
    rw [BitVec.toNat_and, BitVec.toNat_ofInt, h3, Nat.and_two_pow_sub_one_eq_mod]
  show IntKind.i64.wrap ((BitVec.ofInt 64 n &&& BitVec.ofInt 64 1).toNat : Nat) = n % 2
  rw [key, IntKind.wrap_i64]
  omega
end Go.Proofs.YtnhpacaidcjaoaaGreatDoor
