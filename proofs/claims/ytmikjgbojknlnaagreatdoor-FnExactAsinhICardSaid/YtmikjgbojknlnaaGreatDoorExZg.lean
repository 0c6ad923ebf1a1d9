/- Contracts of the series of logarithms in the program. Conditions: numbers are int64; the program's interval is laid. A contract of logarithms of numbers in the program. Conditions: numbers are int64; the program's interval is laid. -/
import Derived.Test.YtmikjgbojknlnaaGreatDoorExN
import Derived.Test.YtmikjgbojknlnaaGreatDoorAtZ
import Derived.Test.YtmikjgbojknlnaaGreatDoorIvD
import Derived.Test.YtmikjgbojknlnaaGreatDoorIvE
import Derived.Test.YtmikjgbojknlnaaGreatDoorIvF
import Derived.Test.YtmikjgbojknlnaaGreatDoorExB
import Derived.Test.YtmikjgbojknlnaaGreatDoorIvT
import Derived.Test.YtmikjgbojknlnaaGreatDoorIvS
import Derived.Test.YtmikjgbojknlnaaGreatDoorIvR
import Derived.Test.YtmikjgbojknlnaaGreatDoorIvV
import Derived.LoopN
import Derived.Handy
import Derived.Deep.DeepCutAuto
import Derived.Deep.RegionHeld3
import Derived.Outline
import Derived.Test.YtmikjgbojknlnaaGreatDoorExA
import Derived.Test.YtmikjgbojknlnaaGreatDoorWideZi
namespace Go.Proofs.YtmikjgbojknlnaaGreatDoor
open Go.ChangeShapes Go.WideShapes Go.ChangeAt Go.RowKit
set_option linter.unusedVariables false
set_option maxRecDepth 100000
set_option linter.unusedSimpArgs false
set_option maxHeartbeats 1000000
theorem logLit (q p c : Iv) (hq : Ok q) (hp : Ok p) (b : Nat) (w : World) (c0 : w.cell? ⟨b, 0, none⟩ = some (.int .i64 q.1)) (c1 : w.cell? ⟨b, 1, none⟩ = some (.int .i64 q.2)) : Calls Tryz.prog 223 #[.agg #[.int .i64 p.1, .int .i64 p.2], .agg #[.int .i64 c.1, .int .i64 c.2], .pointer (some ⟨b, 0, none⟩)] w fun e w' =>
    e = .returned (.agg #[.int .i64 (addI c (mulI q p)).1, .int .i64 (addI c (mulI q p)).2]) ∧ Below w.heap.size w w' := by
  have lb : b < w.heap.size := World.block_lt_of_cell? _ _ c0
  have M := Lib.hid (fun w => MulI_any q p hq hp w)
  have A := Lib.hid (fun w => AddI_any c (mulI q p) w)
  generalize addI c (mulI q p) = z at *
  generalize mulI q p = m at *
  go_enter Tryz.func223, Tryz.ntmps223
  go_wp2_with fail
  have z0 := pslot_of (w := (((w.alloc (.cells #[.int .i64 p.1, .int .i64 p.2] 26)).alloc (.cells #[.int .i64 c.1, .int .i64 c.2] 26)).alloc (.cells #[.int .i64 0, .int .i64 0] 26))) (a := ⟨w.heap.size + 1 + 1, 0, none⟩) (v := .int .i64 0) (by simp [go_sem]) (by simp [go_sem])
  have z1 := pslot_of (w := (((w.alloc (.cells #[.int .i64 p.1, .int .i64 p.2] 26)).alloc (.cells #[.int .i64 c.1, .int .i64 c.2] 26)).alloc (.cells #[.int .i64 0, .int .i64 0] 26))) (a := ⟨w.heap.size + 1 + 1, 1, none⟩) (v := .int .i64 0) (by simp [go_sem]) (by simp [go_sem])
  obtain ⟨hlt2, hlt3, hlt4, hlt5, hlt6, hlt7, hlt8, hlt9, hlt10, hlt11⟩ := below_add; go_region_held3 (fun w' => w'.cell? ⟨b, 0, none⟩ = some (.int .i64 q.1) ∧ w'.cell? ⟨b, 1, none⟩ = some (.int .i64 q.2) ∧ w'.cell? ⟨w.heap.size, 0, none⟩ = some (.int .i64 p.1) ∧ w'.cell? ⟨w.heap.size, 1, none⟩ = some (.int .i64 p.2) ∧ w'.cell? ⟨w.heap.size + 1, 0, none⟩ = some (.int .i64 c.1) ∧ w'.cell? ⟨w.heap.size + 1, 1, none⟩ = some (.int .i64 c.2) ∧ (w'.cell? ⟨w.heap.size + 1 + 1, 0, none⟩ = some (peek w' ⟨w.heap.size + 1 + 1, 0, none⟩) ∧ w'.frozen? ⟨w.heap.size + 1 + 1, 0, none⟩ = false) ∧ (w'.cell? ⟨w.heap.size + 1 + 1, 1, none⟩ = some (peek w' ⟨w.heap.size + 1 + 1, 1, none⟩) ∧ w'.frozen? ⟨w.heap.size + 1 + 1, 1, none⟩ = false)) (first | (with_reducible exact ((And.imp (cell_kept (by assumption)) (And.imp (cell_kept (by assumption)) (And.imp (cell_kept (by assumption)) (And.imp (cell_kept (by assumption)) (And.imp (cell_kept (by assumption)) (And.imp (cell_kept (by assumption)) (And.imp (pslot_kept (by assumption)) (pslot_kept (by assumption))))))))) (by assumption))) | (with_reducible exact ((And.imp (cell_alloc) (And.imp (cell_alloc) (And.imp (cell_alloc) (And.imp (cell_alloc) (And.imp (cell_alloc) (And.imp (cell_alloc) (And.imp (pslot_alloc) (pslot_alloc)))))))) (by assumption))) | (with_reducible exact ((And.imp (fun h => cell_far (by first | (simp; done) | (simp; omega) | (dsimp only; omega)) (cell_far (by first | (simp; done) | (simp; omega) | (dsimp only; omega)) h)) (And.imp (fun h => cell_far (by first | (simp; done) | (simp; omega) | (dsimp only; omega)) (cell_far (by first | (simp; done) | (simp; omega) | (dsimp only; omega)) h)) (And.imp (fun h => cell_far (by first | (simp; done) | (simp; omega) | (dsimp only; omega)) (cell_far (by first | (simp; done) | (simp; omega) | (dsimp only; omega)) h)) (And.imp (fun h => cell_far (by first | (simp; done) | (simp; omega) | (dsimp only; omega)) (cell_far (by first | (simp; done) | (simp; omega) | (dsimp only; omega)) h)) (And.imp (fun h => cell_far (by first | (simp; done) | (simp; omega) | (dsimp only; omega)) (cell_far (by first | (simp; done) | (simp; omega) | (dsimp only; omega)) h)) (And.imp (fun h => cell_far (by first | (simp; done) | (simp; omega) | (dsimp only; omega)) (cell_far (by first | (simp; done) | (simp; omega) | (dsimp only; omega)) h)) (And.imp (fun h => pslot_set (pslot_set h)) (fun h => pslot_set (pslot_set h))))))))) (by assumption))) | (refine ⟨?_, ?_, ?_, ?_, ?_, ?_, ?_, ?_⟩ <;> repeat (first | (with_reducible assumption) | (with_reducible refine cell_far (by first | (simp; done) | (simp; omega) | (dsimp only; omega)) ?_) | (with_reducible refine cell_drew ?_) | (with_reducible refine cell_drewN ?_) | (with_reducible refine cell_kept (by assumption) ?_) | (with_reducible exact pslot_of (by assumption) (by assumption)) | (with_reducible refine pslot_drew ?_) | (with_reducible refine pslot_kept (by assumption) ?_) | (with_reducible refine pslot_alloc ?_) | (simp [go_sem]; done) | (with_reducible refine cell_alloc ?_))) | (simp [go_sem, *]; done)) (first | (go_at_call 106; refine (M.out _).mono ?_; rintro e w1 ⟨rfl, hb⟩; have hs : _ ≤ w1.heap.size := hb.size; (try simp at hs); obtain ⟨hc, hf, hl, hn, hm⟩ := behind hb) | (go_at_call 73; refine (A.out _).mono ?_; rintro e w1 ⟨rfl, hb⟩; have hs : _ ≤ w1.heap.size := hb.size; (try simp at hs); obtain ⟨hc, hf, hl, hn, hm⟩ := behind hb))
  all_goals (go_wp2; have o_j0 : Own (w1) (w.heap.size + 1 + 1) 0 (.int .i64 0) := ownJ; obtain ⟨j0, f_j0⟩ := o_j0; have o_j1 : Own (w1) (w.heap.size + 1 + 1) 1 (.int .i64 0) := ownJ; obtain ⟨j1, f_j1⟩ := o_j1; exact bodyPost_ret (v := .agg #[.int .i64 (z).1, .int .i64 (z).2]) (by simp [results, Tryz.results223, go_sem, j0, j1]) rfl ⟨rfl, belB⟩)
theorem nestedL (q : Iv) (hq : Ok q) (b B : Nat) (w : World) (c0 : w.cell? ⟨b, 0, none⟩ = some (.int .i64 q.1)) (c1 : w.cell? ⟨b, 1, none⟩ = some (.int .i64 q.2)) (d0 : w.cell? ⟨B, 0, none⟩ = some (.int .i64 (quoI 1 9).1)) (d1 : w.cell? ⟨B, 1, none⟩ = some (.int .i64 (quoI 1 9).2)) (d2 : w.cell? ⟨B, 2, none⟩ = some (.int .i64 (quoI 1 7).1)) (d3 : w.cell? ⟨B, 3, none⟩ = some (.int .i64 (quoI 1 7).2)) (d4 : w.cell? ⟨B, 4, none⟩ = some (.int .i64 (quoI 1 5).1)) (d5 : w.cell? ⟨B, 5, none⟩ = some (.int .i64 (quoI 1 5).2)) (d6 : w.cell? ⟨B, 6, none⟩ = some (.int .i64 (quoI 1 3).1)) (d7 : w.cell? ⟨B, 7, none⟩ = some (.int .i64 (quoI 1 3).2)) (d8 : w.cell? ⟨B, 8, none⟩ = some (.int .i64 (quoI 1 1).1)) (d9 : w.cell? ⟨B, 9, none⟩ = some (.int .i64 (quoI 1 1).2)) : Calls Tryz.prog 222 #[.agg #[.int .i64 (quoI 1 11).1, .int .i64 (quoI 1 11).2], .slice (some ⟨B, 0, none⟩) 5 5, .func (Fn.func 223) #[] #[.pointer (some ⟨b, 0, none⟩)]] w fun e w' =>
    e = .returned (.agg #[.int .i64 (logL q 5).1, .int .i64 (logL q 5).2]) ∧ Below w.heap.size w w' := by
  have lb : b < w.heap.size := World.block_lt_of_cell? _ _ c0
  have lB : B < w.heap.size := World.block_lt_of_cell? _ _ d0
  have HC := Lib.hid (show ∀ j : Nat, j < 5 → w.cell? ⟨B, j * 2, none⟩ = some (.int .i64 (quoI 1 (9 - 2 * (j : Int))).1) ∧ w.cell? ⟨B, j * 2 + 1, none⟩ = some (.int .i64 (quoI 1 (9 - 2 * (j : Int))).2) from by
    intro j hj
    rcases (show j = 0 ∨ j = 1 ∨ j = 2 ∨ j = 3 ∨ j = 4 by omega) with rfl | rfl | rfl | rfl | rfl
    · exact ⟨d0, d1⟩
    · exact ⟨d2, d3⟩
    · exact ⟨d4, d5⟩
    · exact ⟨d6, d7⟩
    · exact ⟨d8, d9⟩)
  have K0 := Lib.hid c0
  have K1 := Lib.hid c1
  clear d0 d1 d2 d3 d4 d5 d6 d7 d8 d9 c0 c1
  go_enter Tryz.func222, Tryz.ntmps222
  go_wp2_with fail
  go_loopw [11] (fun k wr => ∃ j : Nat, j ≤ 5 ∧ k = .int .i64 (j : Int) ∧ Own wr w.heap.size 0 (.int .i64 (logL q j).1) ∧ Own wr w.heap.size 1 (.int .i64 (logL q j).2) ∧ Own wr (w.heap.size + 1) 0 (.int .i64 0) ∧ Own wr (w.heap.size + 1) 1 (.int .i64 0) ∧ Below w.heap.size w wr) (fun k _ => ((5 : Int) - intOf k).toNat)
  case atStart => exact ⟨0, by omega, rfl, ⟨by simp [go_sem, logL], by simp [go_sem]⟩, ⟨by simp [go_sem, logL], by simp [go_sem]⟩, ⟨by simp [go_sem], by simp [go_sem]⟩, ⟨by simp [go_sem], by simp [go_sem]⟩, belB⟩
  case round =>
    obtain ⟨j, hj, rfl, v0, v1, r0, r1, hb⟩ := hrel
    have hsz := hb.size
    obtain ⟨cv0, fv0⟩ := id v0
    obtain ⟨cv1, fv1⟩ := id v1
    by_cases k : j < 5
    · have k1 : (j : Int) < 5 := by omega
      have x0 : wr.cell? ⟨B, j * 2, none⟩ = some (.int .i64 (quoI 1 (9 - 2 * (j : Int))).1) := by rw [hb.cell lB]; exact (HC.out j k).1
      have x1 : wr.cell? ⟨B, j * 2 + 1, none⟩ = some (.int .i64 (quoI 1 (9 - 2 * (j : Int))).2) := by rw [hb.cell lB]; exact (HC.out j k).2
      have q0 : wr.cell? ⟨b, 0, none⟩ = some (.int .i64 q.1) := cell_kept hb K0.out
      have q1 : wr.cell? ⟨b, 1, none⟩ = some (.int .i64 q.2) := cell_kept hb K1.out
      have L := Lib.hid (fun w => logLit q (logL q j) (quoI 1 (9 - 2 * (j : Int))) hq (res_ok (logL_res _ _)) b w)
      have E := Lib.hid (show logL q (j + 1) = addI (quoI 1 (9 - 2 * (j : Int))) (mulI q (logL q j)) from rfl)
      have lv : w.heap.size + 1 < wr.heap.size := World.block_lt_of_cell? _ _ r0.1
      have lv0 : w.heap.size < wr.heap.size := by omega
      generalize addI (quoI 1 (9 - 2 * (j : Int))) (mulI q (logL q j)) = z at *
      generalize quoI 1 (9 - 2 * (j : Int)) = c at *
      generalize logL q j = s at *
      go_wp2_with fail
      refine (L.out _ (cell_alloc q0) (cell_alloc q1)).mono ?_
      rintro e w20 ⟨rfl, hb20⟩
      have hs20 : _ ≤ w20.heap.size := hb20.size
      try simp at hs20
      have zV0 : Own w20 w.heap.size 0 (.int .i64 s.1) := own_kept hb20 (own_alloc v0)
      have zV1 : Own w20 w.heap.size 1 (.int .i64 s.2) := own_kept hb20 (own_alloc v1)
      have zR0 : Own w20 (w.heap.size + 1) 0 (.int .i64 0) := own_kept hb20 (own_alloc r0)
      have zR1 : Own w20 (w.heap.size + 1) 1 (.int .i64 0) := own_kept hb20 (own_alloc r1)
      obtain ⟨dS0, eS0⟩ := id zV0
      obtain ⟨dS1, eS1⟩ := id zV1
      go_wp2
      go_roundw
      case rel => exact ⟨j + 1, by omega, by go_num, by rw [E.out]; exact own_next (by decide) (own_put zV0), by rw [E.out]; exact own_put (own_next (by decide) zV1), own_far (by dsimp only; omega) (own_far (by dsimp only; omega) zR0), own_far (by dsimp only; omega) (own_far (by dsimp only; omega) zR1), belB⟩
      case measure => first | (simp [intOf]; done) | (simp [intOf]; omega)
    · have e : j = 5 := by omega
      subst e
      obtain ⟨cr0, fr0⟩ := id r0
      obtain ⟨cr1, fr1⟩ := id r1
      go_wp2
      exact bodyPost_ret (v := .agg #[.int .i64 (logL q 5).1, .int .i64 (logL q 5).2]) (by simp [results, Tryz.results222, go_sem, cr0, cr1]) rfl ⟨rfl, belB⟩
theorem logSeries_any (x : Iv) (hx : Ok x) (w : World) (hg : GloT w) : Calls Tryz.prog 199 #[.agg #[.int .i64 x.1, .int .i64 x.2]] w fun e w' =>
    e = .returned (.agg #[.int .i64 (logW x).1, .int .i64 (logW x).2]) ∧ Below w.heap.size w w' := by
  have S := Lib.hid (fun w => SqrI_any x w)
  have N := Lib.hid (fun b B w => nestedL (sqrI x) (res_ok (sqr_res _)) b B w)
  have Q9 := Lib.hid (fun w => Quotient_any 1 9 (by unfold In64; omega) (by unfold In64; omega) w)
  have Q7 := Lib.hid (fun w => Quotient_any 1 7 (by unfold In64; omega) (by unfold In64; omega) w)
  have Q5 := Lib.hid (fun w => Quotient_any 1 5 (by unfold In64; omega) (by unfold In64; omega) w)
  have Q3 := Lib.hid (fun w => Quotient_any 1 3 (by unfold In64; omega) (by unfold In64; omega) w)
  have Q1 := Lib.hid (fun w => Quotient_any 1 1 (by unfold In64; omega) (by unfold In64; omega) w)
  have Q11 := Lib.hid (fun w => Quotient_any 1 11 (by unfold In64; omega) (by unfold In64; omega) w)
  have I2 := Lib.hid (fun w => Integer_any 2 (by unfold In64; omega) w)
  have M1 := Lib.hid (fun w => MulI_any (intI 2) x (int_ok _) hx w)
  have M2 := Lib.hid (fun w => MulI_any (mulI (intI 2) x) (logL (sqrI x) 5) (res_ok (mul_res _ _)) (res_ok (logL_res _ _)) w)
  have A := Lib.hid (fun w => AddI_any (mulI (mulI (intI 2) x) (logL (sqrI x) 5)) tin w)
  have E := Lib.hid (show logW x = addI (mulI (mulI (intI 2) x) (logL (sqrI x) 5)) tin from rfl)
  have lg := hg.lt
  generalize logW x = Y at *
  generalize addI (mulI (mulI (intI 2) x) (logL (sqrI x) 5)) tin = z at *
  generalize mulI (mulI (intI 2) x) (logL (sqrI x) 5) = m2 at *
  generalize mulI (intI 2) x = m1 at *
  generalize logL (sqrI x) 5 = s at *
  generalize sqrI x = y at *
  generalize intI 2 = i2 at *
  generalize quoI 1 9 = c9 at *
  generalize quoI 1 7 = c7 at *
  generalize quoI 1 5 = c5 at *
  generalize quoI 1 3 = c3 at *
  generalize quoI 1 1 = c1 at *
  generalize quoI 1 11 = c11 at *
  go_enter Tryz.func199, Tryz.ntmps199
  go_wp2_with fail
  refine (S.out _).mono ?_
  rintro e w1 ⟨rfl, hb1⟩
  have hs1 : _ ≤ w1.heap.size := hb1.size
  try simp at hs1
  have o_x10 : Own (w1) (w.heap.size) 0 (.int .i64 x.1) := ownJ; have x10 := o_x10.1; have f_x10 := o_x10.2; have o_x11 : Own (w1) (w.heap.size) 1 (.int .i64 x.2) := ownJ; have x11 := o_x11.1; have f_x11 := o_x11.2
  have o_r10 : Own (w1) (w.heap.size + 1) 0 (.int .i64 0) := ownJ; have r10 := o_r10.1; have f_r10 := o_r10.2; have o_r11 : Own (w1) (w.heap.size + 1) 1 (.int .i64 0) := ownJ; have r11 := o_r11.1; have f_r11 := o_r11.2
  have lr1 := World.block_lt_of_cell? _ _ r10
  go_wp2_with fail
  refine (Q9.out _).mono ?_
  rintro e w2 ⟨rfl, hb2⟩
  have hs2 : _ ≤ w2.heap.size := hb2.size
  try simp at hs2
  go_wp2_with fail
  refine (Q7.out _).mono ?_
  rintro e w3 ⟨rfl, hb3⟩
  have hs3 : _ ≤ w3.heap.size := hb3.size
  try simp at hs3
  go_wp2_with fail
  refine (Q5.out _).mono ?_
  rintro e w4 ⟨rfl, hb4⟩
  have hs4 : _ ≤ w4.heap.size := hb4.size
  try simp at hs4
  go_wp2_with fail
  refine (Q3.out _).mono ?_
  rintro e w5 ⟨rfl, hb5⟩
  have hs5 : _ ≤ w5.heap.size := hb5.size
  try simp at hs5
  go_wp2_with fail
  refine (Q1.out _).mono ?_
  rintro e w6 ⟨rfl, hb6⟩
  have hs6 : _ ≤ w6.heap.size := hb6.size
  try simp at hs6
  have o_y60 : Own (w6) (w1.heap.size) 0 (.int .i64 y.1) := ownJ; have y60 := o_y60.1; have f_y60 := o_y60.2; have o_y61 : Own (w6) (w1.heap.size) 1 (.int .i64 y.2) := ownJ; have y61 := o_y61.1; have f_y61 := o_y61.2
  have o_x60 : Own (w6) (w.heap.size) 0 (.int .i64 x.1) := ownJ; have x60 := o_x60.1; have f_x60 := o_x60.2; have o_x61 : Own (w6) (w.heap.size) 1 (.int .i64 x.2) := ownJ; have x61 := o_x61.1; have f_x61 := o_x61.2
  have o_r60 : Own (w6) (w.heap.size + 1) 0 (.int .i64 0) := ownJ; have r60 := o_r60.1; have f_r60 := o_r60.2; have o_r61 : Own (w6) (w.heap.size + 1) 1 (.int .i64 0) := ownJ; have r61 := o_r61.1; have f_r61 := o_r61.2
  have ly6 := World.block_lt_of_cell? _ _ y60
  have bw6 : Below w.heap.size w w6 := belB
  obtain ⟨g, hg'⟩ : ∃ g, g = w1.heap.size := ⟨_, rfl⟩
  rw [← hg'] at y60 y61 o_y60 o_y61 ly6
  have lrg : w.heap.size + 1 < g := by omega
  clear hb2 hb3 hb4 hb5 hb6 hs2 hs3 hs4 hs5 hs6 o_x10 o_x11 o_r10 o_r11 x10 x11 r10 r11 f_x10 f_x11 f_r10 f_r11
  go_upto_region 3 with fail
  rw [← hg']
  clear hg'
  go_cut [5] (fun s5 wx => ∃ h : Nat, s5 = .pointer (some ⟨h, 0, none⟩) ∧ Own wx h 0 (.int .i64 s.1) ∧ Own wx h 1 (.int .i64 s.2) ∧ w.heap.size + 1 < h ∧ Own wx (w.heap.size + 1) 0 (.int .i64 0) ∧ Own wx (w.heap.size + 1) 1 (.int .i64 0) ∧ Own wx w.heap.size 0 (.int .i64 x.1) ∧ Own wx w.heap.size 1 (.int .i64 x.2) ∧ Below w.heap.size w wx)
  case first =>
    obtain ⟨hlt2, hlt3, hlt4, hlt5, hlt6, hlt7, hlt8, hlt9, hlt10, hlt11⟩ := below_add; go_region_held3 (fun w' => w'.cell? ⟨g, 0, none⟩ = some (.int .i64 y.1) ∧ w'.cell? ⟨g, 1, none⟩ = some (.int .i64 y.2) ∧ w'.cell? ⟨w6.heap.size, 0, none⟩ = some (.int .i64 c9.1) ∧ w'.cell? ⟨w6.heap.size, 1, none⟩ = some (.int .i64 c9.2) ∧ w'.cell? ⟨w6.heap.size, 2, none⟩ = some (.int .i64 c7.1) ∧ w'.cell? ⟨w6.heap.size, 3, none⟩ = some (.int .i64 c7.2) ∧ w'.cell? ⟨w6.heap.size, 4, none⟩ = some (.int .i64 c5.1) ∧ w'.cell? ⟨w6.heap.size, 5, none⟩ = some (.int .i64 c5.2) ∧ w'.cell? ⟨w6.heap.size, 6, none⟩ = some (.int .i64 c3.1) ∧ w'.cell? ⟨w6.heap.size, 7, none⟩ = some (.int .i64 c3.2) ∧ w'.cell? ⟨w6.heap.size, 8, none⟩ = some (.int .i64 c1.1) ∧ w'.cell? ⟨w6.heap.size, 9, none⟩ = some (.int .i64 c1.2)) (first | (with_reducible exact ((And.imp (cell_kept (by assumption)) (And.imp (cell_kept (by assumption)) (And.imp (cell_kept (by assumption)) (And.imp (cell_kept (by assumption)) (And.imp (cell_kept (by assumption)) (And.imp (cell_kept (by assumption)) (And.imp (cell_kept (by assumption)) (And.imp (cell_kept (by assumption)) (And.imp (cell_kept (by assumption)) (And.imp (cell_kept (by assumption)) (And.imp (cell_kept (by assumption)) (cell_kept (by assumption))))))))))))) (by assumption))) | (with_reducible exact ((And.imp (cell_alloc) (And.imp (cell_alloc) (And.imp (cell_alloc) (And.imp (cell_alloc) (And.imp (cell_alloc) (And.imp (cell_alloc) (And.imp (cell_alloc) (And.imp (cell_alloc) (And.imp (cell_alloc) (And.imp (cell_alloc) (And.imp (cell_alloc) (cell_alloc)))))))))))) (by assumption))) | (with_reducible exact ((And.imp (fun h => cell_far (by first | (simp; done) | (simp; omega) | (dsimp only; omega)) (cell_far (by first | (simp; done) | (simp; omega) | (dsimp only; omega)) h)) (And.imp (fun h => cell_far (by first | (simp; done) | (simp; omega) | (dsimp only; omega)) (cell_far (by first | (simp; done) | (simp; omega) | (dsimp only; omega)) h)) (And.imp (fun h => cell_far (by first | (simp; done) | (simp; omega) | (dsimp only; omega)) (cell_far (by first | (simp; done) | (simp; omega) | (dsimp only; omega)) h)) (And.imp (fun h => cell_far (by first | (simp; done) | (simp; omega) | (dsimp only; omega)) (cell_far (by first | (simp; done) | (simp; omega) | (dsimp only; omega)) h)) (And.imp (fun h => cell_far (by first | (simp; done) | (simp; omega) | (dsimp only; omega)) (cell_far (by first | (simp; done) | (simp; omega) | (dsimp only; omega)) h)) (And.imp (fun h => cell_far (by first | (simp; done) | (simp; omega) | (dsimp only; omega)) (cell_far (by first | (simp; done) | (simp; omega) | (dsimp only; omega)) h)) (And.imp (fun h => cell_far (by first | (simp; done) | (simp; omega) | (dsimp only; omega)) (cell_far (by first | (simp; done) | (simp; omega) | (dsimp only; omega)) h)) (And.imp (fun h => cell_far (by first | (simp; done) | (simp; omega) | (dsimp only; omega)) (cell_far (by first | (simp; done) | (simp; omega) | (dsimp only; omega)) h)) (And.imp (fun h => cell_far (by first | (simp; done) | (simp; omega) | (dsimp only; omega)) (cell_far (by first | (simp; done) | (simp; omega) | (dsimp only; omega)) h)) (And.imp (fun h => cell_far (by first | (simp; done) | (simp; omega) | (dsimp only; omega)) (cell_far (by first | (simp; done) | (simp; omega) | (dsimp only; omega)) h)) (And.imp (fun h => cell_far (by first | (simp; done) | (simp; omega) | (dsimp only; omega)) (cell_far (by first | (simp; done) | (simp; omega) | (dsimp only; omega)) h)) (fun h => cell_far (by first | (simp; done) | (simp; omega) | (dsimp only; omega)) (cell_far (by first | (simp; done) | (simp; omega) | (dsimp only; omega)) h))))))))))))) (by assumption))) | (refine ⟨?_, ?_, ?_, ?_, ?_, ?_, ?_, ?_, ?_, ?_, ?_, ?_⟩ <;> repeat (first | (with_reducible assumption) | (with_reducible refine cell_far (by first | (simp; done) | (simp; omega) | (dsimp only; omega)) ?_) | (with_reducible refine cell_drew ?_) | (with_reducible refine cell_drewN ?_) | (with_reducible refine cell_kept (by assumption) ?_) | (simp [go_sem]; done) | (with_reducible refine cell_alloc ?_))) | (simp [go_sem, *]; done)) (first | (go_at_call 135; refine (Q11.out _).mono ?_; rintro e w1 ⟨rfl, hb⟩; have hs : _ ≤ w1.heap.size := hb.size; (try simp at hs); obtain ⟨hc, hf, hl, hn, hm⟩ := behind hb) | (go_at_call 222; refine (N.out _ _ _ (by simp [go_sem, *]) (by simp [go_sem, *]) (by simp [go_sem, *]) (by simp [go_sem, *]) (by simp [go_sem, *]) (by simp [go_sem, *]) (by simp [go_sem, *]) (by simp [go_sem, *]) (by simp [go_sem, *]) (by simp [go_sem, *]) (by simp [go_sem, *]) (by simp [go_sem, *])).mono ?_; rintro e w1 ⟨rfl, hb⟩; have hs : _ ≤ w1.heap.size := hb.size; (try simp at hs); obtain ⟨hc, hf, hl, hn, hm⟩ := behind hb))
    all_goals (go_wp2_with fail; go_meet)
    all_goals first
      | (have o_jr0 : Own (w1) (w.heap.size + 1) 0 (.int .i64 0) := ownJ; have jr0 := o_jr0.1; have f_jr0 := o_jr0.2; have o_jr1 : Own (w1) (w.heap.size + 1) 1 (.int .i64 0) := ownJ; have jr1 := o_jr1.1; have f_jr1 := o_jr1.2; have o_jx0 : Own (w1) (w.heap.size) 0 (.int .i64 x.1) := ownJ; have jx0 := o_jx0.1; have f_jx0 := o_jx0.2; have o_jx1 : Own (w1) (w.heap.size) 1 (.int .i64 x.2) := ownJ; have jx1 := o_jx1.1; have f_jx1 := o_jx1.2; have lz := World.block_lt_of_cell? _ _ jr0; exact ⟨_, rfl, ⟨by simp [go_sem], by simp [go_sem]⟩, ⟨by simp [go_sem], by simp [go_sem]⟩, by omega, own_alloc o_jr0, own_alloc o_jr1, own_alloc o_jx0, own_alloc o_jx1, belB⟩)
      | (have o_jr0 : Own (w1) (w.heap.size + 1) 0 (.int .i64 0) := ownJ; have jr0 := o_jr0.1; have f_jr0 := o_jr0.2; have o_jr1 : Own (w1) (w.heap.size + 1) 1 (.int .i64 0) := ownJ; have jr1 := o_jr1.1; have f_jr1 := o_jr1.2; have o_jx0 : Own (w1) (w.heap.size) 0 (.int .i64 x.1) := ownJ; have jx0 := o_jx0.1; have f_jx0 := o_jx0.2; have o_jx1 : Own (w1) (w.heap.size) 1 (.int .i64 x.2) := ownJ; have jx1 := o_jx1.1; have f_jx1 := o_jx1.2; have lz := World.block_lt_of_cell? _ _ jr0; refine ⟨_, rfl, own_next (by decide) (own_put (v := .int .i64 0) ?_), own_put (v := .int .i64 0) (own_next (by decide) ?_), ?_, own_far ?_ (own_far ?_ o_jr0), own_far ?_ (own_far ?_ o_jr1), own_far ?_ (own_far ?_ o_jx0), own_far ?_ (own_far ?_ o_jx1), belB⟩; all_goals first | omega | (dsimp only; omega) | (simp; omega) | (repeat (first | (with_reducible assumption) | (with_reducible refine own_drew ?_) | (with_reducible refine own_drewN ?_) | (with_reducible refine own_kept (by assumption) ?_) | (refine ⟨?_, ?_⟩ <;> simp [go_sem]; done) | (with_reducible refine own_alloc ?_))))
  case rest =>
    obtain ⟨h, rfl, V0, V1, lh, R0, R1, X0, X1, hb⟩ := hcut
    have hsb := hb.size
    obtain ⟨g2, g3⟩ : GloT wc := hg.kept hb
    have l1 : 1 < wc.heap.size := World.block_lt_of_cell? _ _ g2
    obtain ⟨cv0, fv0⟩ := id V0
    obtain ⟨cv1, fv1⟩ := id V1
    obtain ⟨cx0, fx0⟩ := id X0
    obtain ⟨cx1, fx1⟩ := id X1
    have lh2 : h < wc.heap.size := World.block_lt_of_cell? _ _ cv0
    have lh3 : w.heap.size < wc.heap.size := World.block_lt_of_cell? _ _ cx0
    go_wp2_with fail
    have z0 := pslot_of (w := wc) (a := ⟨w.heap.size + 1, 0, none⟩) (v := .int .i64 0) R0.1 R0.2
    have z1 := pslot_of (w := wc) (a := ⟨w.heap.size + 1, 1, none⟩) (v := .int .i64 0) R1.1 R1.2
    obtain ⟨hlt2, hlt3, hlt4, hlt5, hlt6, hlt7, hlt8, hlt9, hlt10, hlt11⟩ := below_add; go_region_held3 (fun w' => w'.cell? ⟨w.heap.size, 0, none⟩ = some (.int .i64 x.1) ∧ w'.cell? ⟨w.heap.size, 1, none⟩ = some (.int .i64 x.2) ∧ w'.cell? ⟨h, 0, none⟩ = some (.int .i64 s.1) ∧ w'.cell? ⟨h, 1, none⟩ = some (.int .i64 s.2) ∧ w'.cell? ⟨1, 0, none⟩ = some (.int .i64 (-1)) ∧ w'.cell? ⟨1, 1, none⟩ = some (.int .i64 1) ∧ (w'.cell? ⟨w.heap.size + 1, 0, none⟩ = some (peek w' ⟨w.heap.size + 1, 0, none⟩) ∧ w'.frozen? ⟨w.heap.size + 1, 0, none⟩ = false) ∧ (w'.cell? ⟨w.heap.size + 1, 1, none⟩ = some (peek w' ⟨w.heap.size + 1, 1, none⟩) ∧ w'.frozen? ⟨w.heap.size + 1, 1, none⟩ = false)) (first | (with_reducible exact ((And.imp (cell_kept (by assumption)) (And.imp (cell_kept (by assumption)) (And.imp (cell_kept (by assumption)) (And.imp (cell_kept (by assumption)) (And.imp (cell_kept (by assumption)) (And.imp (cell_kept (by assumption)) (And.imp (pslot_kept (by assumption)) (pslot_kept (by assumption))))))))) (by assumption))) | (with_reducible exact ((And.imp (cell_alloc) (And.imp (cell_alloc) (And.imp (cell_alloc) (And.imp (cell_alloc) (And.imp (cell_alloc) (And.imp (cell_alloc) (And.imp (pslot_alloc) (pslot_alloc)))))))) (by assumption))) | (with_reducible exact ((And.imp (fun h => cell_far (by first | (simp; done) | (simp; omega) | (dsimp only; omega)) (cell_far (by first | (simp; done) | (simp; omega) | (dsimp only; omega)) h)) (And.imp (fun h => cell_far (by first | (simp; done) | (simp; omega) | (dsimp only; omega)) (cell_far (by first | (simp; done) | (simp; omega) | (dsimp only; omega)) h)) (And.imp (fun h => cell_far (by first | (simp; done) | (simp; omega) | (dsimp only; omega)) (cell_far (by first | (simp; done) | (simp; omega) | (dsimp only; omega)) h)) (And.imp (fun h => cell_far (by first | (simp; done) | (simp; omega) | (dsimp only; omega)) (cell_far (by first | (simp; done) | (simp; omega) | (dsimp only; omega)) h)) (And.imp (fun h => cell_far (by first | (simp; done) | (simp; omega) | (dsimp only; omega)) (cell_far (by first | (simp; done) | (simp; omega) | (dsimp only; omega)) h)) (And.imp (fun h => cell_far (by first | (simp; done) | (simp; omega) | (dsimp only; omega)) (cell_far (by first | (simp; done) | (simp; omega) | (dsimp only; omega)) h)) (And.imp (fun h => pslot_set (pslot_set h)) (fun h => pslot_set (pslot_set h))))))))) (by assumption))) | (refine ⟨?_, ?_, ?_, ?_, ?_, ?_, ?_, ?_⟩ <;> repeat (first | (with_reducible assumption) | (with_reducible refine cell_far (by first | (simp; done) | (simp; omega) | (dsimp only; omega)) ?_) | (with_reducible refine cell_drew ?_) | (with_reducible refine cell_drewN ?_) | (with_reducible refine cell_kept (by assumption) ?_) | (with_reducible exact pslot_of (by assumption) (by assumption)) | (with_reducible refine pslot_drew ?_) | (with_reducible refine pslot_kept (by assumption) ?_) | (with_reducible refine pslot_alloc ?_) | (simp [go_sem]; done) | (with_reducible refine cell_alloc ?_))) | (simp [go_sem, *]; done)) (first | (go_at_call 74; refine (I2.out _).mono ?_; rintro e w1 ⟨rfl, hb⟩; have hs : _ ≤ w1.heap.size := hb.size; (try simp at hs); obtain ⟨hc, hf, hl, hn, hm⟩ := behind hb) | (go_at_call 106; with_reducible refine (M1.out _).mono ?_; rintro e w1 ⟨rfl, hb⟩; have hs : _ ≤ w1.heap.size := hb.size; (try simp at hs); obtain ⟨hc, hf, hl, hn, hm⟩ := behind hb) | (go_at_call 106; with_reducible refine (M2.out _).mono ?_; rintro e w1 ⟨rfl, hb⟩; have hs : _ ≤ w1.heap.size := hb.size; (try simp at hs); obtain ⟨hc, hf, hl, hn, hm⟩ := behind hb) | (go_at_call 73; refine (A.out _).mono ?_; rintro e w1 ⟨rfl, hb⟩; have hs : _ ≤ w1.heap.size := hb.size; (try simp at hs); obtain ⟨hc, hf, hl, hn, hm⟩ := behind hb))
    all_goals (go_wp2; have o_j0 : Own (w1) (w.heap.size + 1) 0 (.int .i64 0) := ownJ; obtain ⟨j0, f_j0⟩ := o_j0; have o_j1 : Own (w1) (w.heap.size + 1) 1 (.int .i64 0) := ownJ; obtain ⟨j1, f_j1⟩ := o_j1; exact bodyPost_ret (v := .agg #[.int .i64 (z).1, .int .i64 (z).2]) (by simp [results, Tryz.results199, go_sem, j0, j1]) rfl ⟨by rw [E.out], belB⟩)
end Go.Proofs.YtmikjgbojknlnaaGreatDoor
namespace Go.Proofs.YtmikjgbojknlnaaGreatDoor
open Go.ChangeShapes Go.WideShapes Go.ChangeAt Go.RowKit
set_option linter.unusedVariables false
set_option maxRecDepth 100000
set_option linter.unusedSimpArgs false
set_option maxHeartbeats 1000000
theorem LogAt_no (n : Int) (h : ¬ LogN n) (w : World) : Calls Tryz.prog 157 #[.int .i64 n] w fun e w' =>
    e = .returned (.agg #[.int .i64 (logF n).1, .int .i64 (logF n).2]) ∧ Below w.heap.size w w' := by
  have E := Lib.hid (logF_no h)
  by_cases f : InF n
  · have O := okF_yes f
    have k : decide (n ≤ 0) = true := decide_eq_true (by unfold LogN at h; unfold InF at f; omega)
    clear h f
    generalize logF n = Y at *
    go_enter Tryz.func157, Tryz.ntmps157
    go_wp2_with fail
    refine (ValidFix_any n _).mono ?_
    rintro e w0 ⟨rfl, rfl⟩
    try rw [O]
    go_wp2_with fail
    refine (Whole_any _).mono ?_
    rintro e w1 ⟨rfl, hb1⟩
    have hs1 : _ ≤ w1.heap.size := hb1.size
    try simp at hs1
    have o_q10 : Own (w1) (w.heap.size) 0 (.int .i64 0) := ownJ; obtain ⟨q10, f_q10⟩ := o_q10; have o_q11 : Own (w1) (w.heap.size) 1 (.int .i64 0) := ownJ; obtain ⟨q11, f_q11⟩ := o_q11
    go_wp2
    exact bodyPost_ret (v := .agg #[.int .i64 (-1152921504606846976), .int .i64 1152921504606846976]) (by simp [results, Tryz.results157, go_sem, q10, q11]) rfl ⟨(by first | (rw [E.out]; done) | (rw [E.out]; rfl) | (simp [E.out]; done)), belB⟩
  · have O := okF_no f
    clear h f
    generalize logF n = Y at *
    go_enter Tryz.func157, Tryz.ntmps157
    go_wp2_with fail
    refine (ValidFix_any n _).mono ?_
    rintro e w0 ⟨rfl, rfl⟩
    try rw [O]
    go_wp2_with fail
    refine (Whole_any _).mono ?_
    rintro e w1 ⟨rfl, hb1⟩
    have hs1 : _ ≤ w1.heap.size := hb1.size
    try simp at hs1
    have o_q10 : Own (w1) (w.heap.size) 0 (.int .i64 0) := ownJ; obtain ⟨q10, f_q10⟩ := o_q10; have o_q11 : Own (w1) (w.heap.size) 1 (.int .i64 0) := ownJ; obtain ⟨q11, f_q11⟩ := o_q11
    go_wp2
    exact bodyPost_ret (v := .agg #[.int .i64 (-1152921504606846976), .int .i64 1152921504606846976]) (by simp [results, Tryz.results157, go_sem, q10, q11]) rfl ⟨(by first | (rw [E.out]; done) | (rw [E.out]; rfl) | (simp [E.out]; done)), belB⟩
set_option maxHeartbeats 8000000 in
theorem LogAt_yes (n : Int) (h : LogN n) (w : World) (hg : GloT w) : Calls Tryz.prog 157 #[.int .i64 n] w fun e w' =>
    e = .returned (.agg #[.int .i64 (logF n).1, .int .i64 (logF n).2]) ∧ Below w.heap.size w w' := by
  obtain ⟨t0, t1⟩ := lenW_log h
  have hF : InF ((n, n) : Iv).2 := by unfold LogN at h; unfold InF; simp only; omega
  have O := okF_yes hF
  have b0 : 0 < n := h.1
  have b1 : n ≤ 1152921504606846976 := h.2
  have k0 : decide (n ≤ 0) = false := decide_eq_false (by omega)
  have IU : InU n := by unfold InU; omega
  have LE := Lib.hid (fun w => Len64_any n IU w)
  have WU : IntKind.u64.wrap n = n := by rw [IntKind.wrap_u64]; omega
  obtain ⟨hA, hB⟩ := log_half h
  obtain ⟨d, hd⟩ : ∃ d, d = lenW n - 33 := ⟨_, rfl⟩
  have WS : IntKind.i64.wrap (lenW n - 33) = d := by rw [hd]; exact wrapS (by unfold In64; omega)
  have WS' : lenW n - 33 = d := hd.symm
  have WD : IntKind.i64.wrap (-d) = -d := wrapS (by unfold In64; omega)
  obtain ⟨e, he⟩ : ∃ e, e = d + 1 := ⟨_, rfl⟩
  have WP : IntKind.i64.wrap (d + 1) = e := by rw [he]; exact wrapS (by unfold In64; omega)
  have WP' : d + 1 = e := he.symm
  have e33 : 33 - lenW n = -d := by omega
  rw [e33] at hA hB
  have d0 : -32 ≤ d := by omega
  have d1 : d ≤ 28 := by omega
  have M1 := Lib.hid (fun w => timesTwos_any (n, n) hF (-d) (by omega) (by omega) w)
  have SG := Lib.hid (fun w => single_any n w)
  have I1 := Lib.hid (fun w => Integer_any 1 (by unfold In64; omega) w)
  have lgl := hg.lt
  clear IU e33 hd
  by_cases c : 6442450944 ≤ (shfI (n, n) (-d)).1
  · have hE : logE n = e := by rw [he]; have := hA.1 c; omega
    have HM : logM n = shfI (n, n) (-e) := by unfold logM; rw [hE]
    have HZ : logZ n = divI (subI (shfI (n, n) (-e)) (intI 1)) (addI (shfI (n, n) (-e)) (intI 1)) := by unfold logZ; rw [HM]
    have HF : logF n = addI (ln2 e) (logW (logZ n)) := by rw [logF_yes h, hE]
    have G0 : decide (6442450944 ≤ (shfI (n, n) (-d)).1) = true := decide_eq_true c
    have WE : IntKind.i64.wrap (-e) = -e := wrapS (by unfold In64; omega)
    have M2 := Lib.hid (fun w => timesTwos_any (n, n) hF (-e) (by omega) (by omega) w)
    have LS := fun w hg => logSeries_any (logZ n) (by rw [HZ]; exact res_ok (div_res _ _)) w hg
    have L2 := Lib.hid (fun w => LogTwoI_any e w)
    have AF := fun w => AddI_any (ln2 e) (logW (logZ n)) w
    rw [← HF] at AF
    obtain ⟨y, hy⟩ : ∃ y, y = logF n := ⟨_, rfl⟩
    have E := Lib.hid hy.symm
    rw [← hy] at AF
    have AF_ := Lib.hid AF
    clear AF
    have AF := AF_
    clear AF_
    generalize logW (logZ n) = lw at *
    obtain ⟨z, hz⟩ : ∃ z, z = logZ n := ⟨_, rfl⟩
    rw [← hz] at LS HZ
    have LS_ := Lib.hid LS
    clear LS
    have LS := LS_
    clear LS_
    have SB := Lib.hid (fun w => SubI_any (shfI (n, n) (-e)) (intI 1) w)
    have AD := Lib.hid (fun w => AddI_any (shfI (n, n) (-e)) (intI 1) w)
    have DV := fun w => DivI_any (subI (shfI (n, n) (-e)) (intI 1)) (addI (shfI (n, n) (-e)) (intI 1)) (res_ok (sub_res _ _)) (res_ok (add_res _ _)) w
    rw [← HZ] at DV
    have DV_ := Lib.hid DV
    clear DV
    have DV := DV_
    clear DV_
    clear hA hB hE HM HZ HF hy hz c h he
    generalize logF n = Y at *
    generalize logZ n = z' at *
    generalize subI (shfI (n, n) (-e)) (intI 1) = s1 at *
    generalize addI (shfI (n, n) (-e)) (intI 1) = s2 at *
    generalize intI 1 = i1 at *
    generalize ln2 e = l2 at *
    generalize shfI (n, n) (-e) = m at *
    generalize shfI (n, n) (-d) = m0 at *
    go_enter Tryz.func157, Tryz.ntmps157
    go_wp2_with fail
    refine (ValidFix_any n _).mono ?_
    rintro e w0 ⟨rfl, rfl⟩
    try rw [O]
    go_wp2_with fail
    refine (LE.out _).mono ?_
    rintro e w0 ⟨rfl, rfl⟩
    go_wp2_with fail
    try rw [WS]
    refine (SG.out _).mono ?_
    rintro e w1 ⟨rfl, hb1⟩
    have hs1 : _ ≤ w1.heap.size := hb1.size
    try simp at hs1
    have o_q10 : Own (w1) (w.heap.size) 0 (.int .i64 0) := ownJ; have q10 := o_q10.1; have f_q10 := o_q10.2; have o_q11 : Own (w1) (w.heap.size) 1 (.int .i64 0) := ownJ; have q11 := o_q11.1; have f_q11 := o_q11.2
    go_wp2_with fail
    try rw [WS]
    refine (M1.out _).mono ?_
    rintro e w2 ⟨rfl, hb2⟩
    have hs2 : _ ≤ w2.heap.size := hb2.size
    try simp at hs2
    have o_q20 : Own (w2) (w.heap.size) 0 (.int .i64 0) := ownJ; have q20 := o_q20.1; have f_q20 := o_q20.2; have o_q21 : Own (w2) (w.heap.size) 1 (.int .i64 0) := ownJ; have q21 := o_q21.1; have f_q21 := o_q21.2
    obtain ⟨g, hg'⟩ : ∃ g, g = w2.heap.size := ⟨_, rfl⟩
    have lrg : w.heap.size < g := by rw [hg']; exact World.block_lt_of_cell? _ _ q20
    go_wp2_with fail
    try rw [WS]
    refine (SG.out _).mono ?_
    rintro e w3 ⟨rfl, hb3⟩
    have hs3 : _ ≤ w3.heap.size := hb3.size
    try simp at hs3
    have o_m30 : Own w3 g 0 (.int .i64 m0.1) := own_kept hb3 (by rw [hg']; exact ⟨by simp [go_sem], by simp [go_sem]⟩)
    have o_m31 : Own w3 g 1 (.int .i64 m0.2) := own_kept hb3 (by rw [hg']; exact ⟨by simp [go_sem], by simp [go_sem]⟩)
    have o_q30 : Own (w3) (w.heap.size) 0 (.int .i64 0) := ownJ; have q30 := o_q30.1; have f_q30 := o_q30.2; have o_q31 : Own (w3) (w.heap.size) 1 (.int .i64 0) := ownJ; have q31 := o_q31.1; have f_q31 := o_q31.2
    go_wp2_with fail
    refine (M2.out _).mono ?_
    rintro e w4 ⟨rfl, hb4⟩
    have hs4 : _ ≤ w4.heap.size := hb4.size
    try simp at hs4
    have o_m40 : Own w4 g 0 (.int .i64 m0.1) := own_kept hb4 o_m30
    have o_m41 : Own w4 g 1 (.int .i64 m0.2) := own_kept hb4 o_m31
    have o_q40 : Own (w4) (w.heap.size) 0 (.int .i64 0) := ownJ; have q40 := o_q40.1; have f_q40 := o_q40.2; have o_q41 : Own (w4) (w.heap.size) 1 (.int .i64 0) := ownJ; have q41 := o_q41.1; have f_q41 := o_q41.2
    obtain ⟨c40, f40⟩ := id o_m40
    obtain ⟨c41, f41⟩ := id o_m41
    rw [hg'] at c40 f40 c41 f41
    go_upto_region 8 with fail
    rw [← hg']
    obtain ⟨u, hu⟩ : ∃ x, x = (w4.setCell ⟨g, 0, none⟩ (.int .i64 m.1)).setCell ⟨g, 1, none⟩ (.int .i64 m.2) := ⟨_, rfl⟩
    rw [← hu]
    have P0 : Own u g 0 (.int .i64 m.1) := by rw [hu]; exact own_next (by decide) (own_put o_m40)
    have P1 : Own u g 1 (.int .i64 m.2) := by rw [hu]; exact own_put (own_next (by decide) o_m41)
    have R0 : Own u w.heap.size 0 (.int .i64 0) := by rw [hu]; exact own_far (by dsimp only; omega) (own_far (by dsimp only; omega) o_q40)
    have R1 : Own u w.heap.size 1 (.int .i64 0) := by rw [hu]; exact own_far (by dsimp only; omega) (own_far (by dsimp only; omega) o_q41)
    have bu : Below w.heap.size w u := by rw [hu]; exact belB
    clear hu
    clear hg' hb1 hb2 hb3 hb4 hs1 hs2 hs3 hs4 o_q10 o_q11 o_q20 o_q21 o_q30 o_q31 o_q40 o_q41 q10 q11 q20 q21 q30 q31 q40 q41 f_q10 f_q11 f_q20 f_q21 f_q30 f_q31 f_q40 f_q41 o_m30 o_m31 o_m40 o_m41 c40 f40 c41 f41
    have bs := bu.size
    obtain ⟨cm0, fm0⟩ := id P0
    obtain ⟨cm1, fm1⟩ := id P1
    have lu : g < u.heap.size := World.block_lt_of_cell? _ _ cm0
    have lr := World.block_lt_of_cell? _ _ R0.1
    go_cut [5] (fun s5 wx => ∃ h : Nat, s5 = .pointer (some ⟨h, 0, none⟩) ∧ Own wx h 0 (.int .i64 z.1) ∧ Own wx h 1 (.int .i64 z.2) ∧ w.heap.size < h ∧ Own wx w.heap.size 0 (.int .i64 0) ∧ Own wx w.heap.size 1 (.int .i64 0) ∧ Below w.heap.size w wx)
    case first =>
      have o_m0 := P0
      have o_m1 := P1
      have o_r0 := R0
      have o_r1 := R1
      refine AnyS.region (S := StayS (fun u => u.cell? ⟨g, 0, none⟩ = some (.int .i64 m.1) ∧ u.cell? ⟨g, 1, none⟩ = some (.int .i64 m.2))) (by kernel_rfl) (show AnyS _ _ _ _ _ 9 _ _ _ from ?_)
      have o_m0_0 := own_drew o_m0
      have o_m1_0 := own_drew o_m1
      have o_r0_0 := own_drew o_r0
      have o_r1_0 := own_drew o_r1
      refine AnyS.take (i := 0) (v := .agg #[.int .i64 m.1, .int .i64 m.2]) (T := fun u => u.cell? ⟨g, 0, none⟩ = some (.int .i64 m.1) ∧ u.cell? ⟨g, 1, none⟩ = some (.int .i64 m.2)) [] rfl (by kernel_rfl) (by kernel_rfl) (by kernel_rfl) (by kernel_rfl) (by kernel_rfl) (fun _ _ _ h => h) (fun L u q s => s) (fun L u s => s) (Or.inl ⟨by rfl, ?_⟩) (StayS.mk ⟨o_m0_0.1, o_m1_0.1⟩) ?_
      · intro u hu
        obtain ⟨u0, u1⟩ := hu
        go_simp
      try simp only [Act.put, List.setIfInBounds_toArray, List.set_cons_zero, List.set_cons_succ]
      refine AnyS.take (i := 3) (v := .agg #[.int .i64 m.1, .int .i64 m.2]) (T := fun u => u.cell? ⟨g, 0, none⟩ = some (.int .i64 m.1) ∧ u.cell? ⟨g, 1, none⟩ = some (.int .i64 m.2)) [] rfl (by kernel_rfl) (by kernel_rfl) (by kernel_rfl) (by kernel_rfl) (by kernel_rfl) (fun _ _ _ h => h) (fun L u q s => s) (fun L u s => s) (Or.inl ⟨by rfl, ?_⟩) (StayS.mk ⟨o_m0_0.1, o_m1_0.1⟩) ?_
      · intro u hu
        obtain ⟨u0, u1⟩ := hu
        go_simp
      try simp only [Act.put, List.setIfInBounds_toArray, List.set_cons_zero, List.set_cons_succ]
      obtain ⟨wd, hwd⟩ : ∃ x, x = u.drew := ⟨_, rfl⟩
      rw [← hwd]
      have o_m0_d : Own wd g 0 (.int .i64 m.1) := by rw [hwd]; exact o_m0_0
      have o_m1_d : Own wd g 1 (.int .i64 m.2) := by rw [hwd]; exact o_m1_0
      have o_r0_d : Own wd w.heap.size 0 (.int .i64 0) := by rw [hwd]; exact o_r0_0
      have o_r1_d : Own wd w.heap.size 1 (.int .i64 0) := by rw [hwd]; exact o_r1_0
      have bwd : Below w.heap.size w wd := by rw [hwd]; exact belB
      clear hwd
      refine AnyS.two (i := 1) (j := 7) (by kernel_rfl) (AnyS.comes rfl (fun K hK => ?_)) (AnyS.comes rfl (fun K hK => ?_))
      · go_simp
        refine (I1.out _).mono ?_
        rintro e wb0 ⟨rfl, hbb0⟩
        have hsb0 : _ ≤ wb0.heap.size := hbb0.size
        try simp at hsb0
        have o_m0_b0 : Own wb0 g 0 (.int .i64 m.1) := own_kept hbb0 o_m0_d
        have o_m1_b0 : Own wb0 g 1 (.int .i64 m.2) := own_kept hbb0 o_m1_d
        have o_r0_b0 : Own wb0 w.heap.size 0 (.int .i64 0) := own_kept hbb0 o_r0_d
        have o_r1_b0 : Own wb0 w.heap.size 1 (.int .i64 0) := own_kept hbb0 o_r1_d
        have bwb0 : Below w.heap.size w wb0 := bwd.trans (hbb0.mono bwd.size)
        clear hbb0
        go_wp2_with fail
        refine hK.out _ _ (StayS.mk ⟨o_m0_b0.1, o_m1_b0.1⟩) ?_
        clear hK K
        try simp only [Act.put, List.setIfInBounds_toArray, List.set_cons_zero, List.set_cons_succ]
        refine AnyS.two (i := 2) (j := 7) (by kernel_rfl) (AnyS.comes rfl (fun K hK => ?_)) (AnyS.comes rfl (fun K hK => ?_))
        · go_simp
          refine (SB.out _).mono ?_
          rintro e wb1 ⟨rfl, hbb1⟩
          have hsb1 : _ ≤ wb1.heap.size := hbb1.size
          try simp at hsb1
          have o_m0_b1 : Own wb1 g 0 (.int .i64 m.1) := own_kept hbb1 o_m0_b0
          have o_m1_b1 : Own wb1 g 1 (.int .i64 m.2) := own_kept hbb1 o_m1_b0
          have o_r0_b1 : Own wb1 w.heap.size 0 (.int .i64 0) := own_kept hbb1 o_r0_b0
          have o_r1_b1 : Own wb1 w.heap.size 1 (.int .i64 0) := own_kept hbb1 o_r1_b0
          have bwb1 : Below w.heap.size w wb1 := bwb0.trans (hbb1.mono bwb0.size)
          clear hbb1
          go_wp2_with fail
          refine hK.out _ _ (StayS.mk ⟨o_m0_b1.1, o_m1_b1.1⟩) ?_
          clear hK K
          try simp only [Act.put, List.setIfInBounds_toArray, List.set_cons_zero, List.set_cons_succ]
          refine AnyS.two (i := 4) (j := 7) (by kernel_rfl) (AnyS.comes rfl (fun K hK => ?_)) (AnyS.comes rfl (fun K hK => ?_))
          · go_simp
            refine (I1.out _).mono ?_
            rintro e wb2 ⟨rfl, hbb2⟩
            have hsb2 : _ ≤ wb2.heap.size := hbb2.size
            try simp at hsb2
            have o_m0_b2 : Own wb2 g 0 (.int .i64 m.1) := own_kept hbb2 o_m0_b1
            have o_m1_b2 : Own wb2 g 1 (.int .i64 m.2) := own_kept hbb2 o_m1_b1
            have o_r0_b2 : Own wb2 w.heap.size 0 (.int .i64 0) := own_kept hbb2 o_r0_b1
            have o_r1_b2 : Own wb2 w.heap.size 1 (.int .i64 0) := own_kept hbb2 o_r1_b1
            have bwb2 : Below w.heap.size w wb2 := bwb1.trans (hbb2.mono bwb1.size)
            clear hbb2
            go_wp2_with fail
            refine hK.out _ _ (StayS.mk ⟨o_m0_b2.1, o_m1_b2.1⟩) ?_
            clear hK K
            try simp only [Act.put, List.setIfInBounds_toArray, List.set_cons_zero, List.set_cons_succ]
            refine AnyS.two (i := 5) (j := 7) (by kernel_rfl) (AnyS.comes rfl (fun K hK => ?_)) (AnyS.comes rfl (fun K hK => ?_))
            · go_simp
              refine (AD.out _).mono ?_
              rintro e wb3 ⟨rfl, hbb3⟩
              have hsb3 : _ ≤ wb3.heap.size := hbb3.size
              try simp at hsb3
              have o_m0_b3 : Own wb3 g 0 (.int .i64 m.1) := own_kept hbb3 o_m0_b2
              have o_m1_b3 : Own wb3 g 1 (.int .i64 m.2) := own_kept hbb3 o_m1_b2
              have o_r0_b3 : Own wb3 w.heap.size 0 (.int .i64 0) := own_kept hbb3 o_r0_b2
              have o_r1_b3 : Own wb3 w.heap.size 1 (.int .i64 0) := own_kept hbb3 o_r1_b2
              have bwb3 : Below w.heap.size w wb3 := bwb2.trans (hbb3.mono bwb2.size)
              clear hbb3
              go_wp2_with fail
              refine hK.out _ _ (StayS.mk ⟨o_m0_b3.1, o_m1_b3.1⟩) ?_
              clear hK K
              try simp only [Act.put, List.setIfInBounds_toArray, List.set_cons_zero, List.set_cons_succ]
              refine AnyS.two (i := 6) (j := 7) (by kernel_rfl) (AnyS.comes rfl (fun K hK => ?_)) (AnyS.comes rfl (fun K hK => ?_))
              · go_simp
                refine (DV.out _).mono ?_
                rintro e wb4 ⟨rfl, hbb4⟩
                have hsb4 : _ ≤ wb4.heap.size := hbb4.size
                try simp at hsb4
                have o_m0_b4 : Own wb4 g 0 (.int .i64 m.1) := own_kept hbb4 o_m0_b3
                have o_m1_b4 : Own wb4 g 1 (.int .i64 m.2) := own_kept hbb4 o_m1_b3
                have o_r0_b4 : Own wb4 w.heap.size 0 (.int .i64 0) := own_kept hbb4 o_r0_b3
                have o_r1_b4 : Own wb4 w.heap.size 1 (.int .i64 0) := own_kept hbb4 o_r1_b3
                have bwb4 : Below w.heap.size w wb4 := bwb3.trans (hbb4.mono bwb3.size)
                clear hbb4
                go_wp2_with fail
                refine hK.out _ _ (StayS.mk ⟨o_m0_b4.1, o_m1_b4.1⟩) ?_
                clear hK K
                try simp only [Act.put, List.setIfInBounds_toArray, List.set_cons_zero, List.set_cons_succ]
                refine AnyS.one (i := 7) (by kernel_rfl) (AnyS.comes rfl (fun K hK => ?_))
                go_simp
                obtain ⟨h, hh⟩ : ∃ h, h = wb4.heap.size := ⟨_, rfl⟩
                obtain ⟨wal, ha⟩ : ∃ x, x = wb4.alloc (.cells #[.int .i64 0, .int .i64 0] 26) := ⟨_, rfl⟩
                skip
                rw [← ha]
                have o_H0_al : Own wal h 0 (.int .i64 0) := by rw [ha, hh]; exact ⟨by simp [go_sem], by simp [go_sem]⟩
                have o_H1_al : Own wal h 1 (.int .i64 0) := by rw [ha, hh]; exact ⟨by simp [go_sem], by simp [go_sem]⟩
                have o_m0_al : Own wal g 0 (.int .i64 m.1) := by rw [ha]; exact own_alloc o_m0_b4
                have o_m1_al : Own wal g 1 (.int .i64 m.2) := by rw [ha]; exact own_alloc o_m1_b4
                have o_r0_al : Own wal w.heap.size 0 (.int .i64 0) := by rw [ha]; exact own_alloc o_r0_b4
                have o_r1_al : Own wal w.heap.size 1 (.int .i64 0) := by rw [ha]; exact own_alloc o_r1_b4
                have lh_m : g < h := by rw [hh]; exact World.block_lt_of_cell? _ _ o_m0_b4.1
                have lh_r : w.heap.size < h := by rw [hh]; exact World.block_lt_of_cell? _ _ o_r0_b4.1
                have bwal : Below w.heap.size w wal := by rw [ha]; exact bwb4.alloc bwb4.size _
                try rw [← hh]
                clear ha hh
                refine hK.out _ _ (StayS.mk ⟨o_m0_al.1, o_m1_al.1⟩) ?_
                clear hK K
                try simp only [Act.put, List.setIfInBounds_toArray, List.set_cons_zero, List.set_cons_succ]
                have cH0 := o_H0_al.1
                have cH1 := o_H1_al.1
                have fH0 := o_H0_al.2
                have fH1 := o_H1_al.2
                refine AnyS.one (i := 8) (by kernel_rfl) (AnyS.comes rfl (fun K hK => ?_))
                go_simp
                refine hK.out _ _ (StayS.mk ⟨cell_far (by dsimp only; omega) (cell_far (by dsimp only; omega) o_m0_al.1), cell_far (by dsimp only; omega) (cell_far (by dsimp only; omega) o_m1_al.1)⟩) ?_
                clear hK K
                try simp only [Act.put, List.setIfInBounds_toArray, List.set_cons_zero, List.set_cons_succ]
                refine AnyS.done (by kernel_rfl) ?_ _
                go_wp2_with fail
                go_meet
                exact ⟨h, rfl, own_next (by decide) (own_put o_H0_al), own_put (own_next (by decide) o_H1_al), by omega, own_far (by dsimp only; omega) (own_far (by dsimp only; omega) o_r0_al), own_far (by dsimp only; omega) (own_far (by dsimp only; omega) o_r1_al), belB⟩
              · go_simp
                obtain ⟨h, hh⟩ : ∃ h, h = wb3.heap.size := ⟨_, rfl⟩
                obtain ⟨wal, ha⟩ : ∃ x, x = wb3.alloc (.cells #[.int .i64 0, .int .i64 0] 26) := ⟨_, rfl⟩
                skip
                rw [← ha]
                have o_H0_al : Own wal h 0 (.int .i64 0) := by rw [ha, hh]; exact ⟨by simp [go_sem], by simp [go_sem]⟩
                have o_H1_al : Own wal h 1 (.int .i64 0) := by rw [ha, hh]; exact ⟨by simp [go_sem], by simp [go_sem]⟩
                have o_m0_al : Own wal g 0 (.int .i64 m.1) := by rw [ha]; exact own_alloc o_m0_b3
                have o_m1_al : Own wal g 1 (.int .i64 m.2) := by rw [ha]; exact own_alloc o_m1_b3
                have o_r0_al : Own wal w.heap.size 0 (.int .i64 0) := by rw [ha]; exact own_alloc o_r0_b3
                have o_r1_al : Own wal w.heap.size 1 (.int .i64 0) := by rw [ha]; exact own_alloc o_r1_b3
                have lh_m : g < h := by rw [hh]; exact World.block_lt_of_cell? _ _ o_m0_b3.1
                have lh_r : w.heap.size < h := by rw [hh]; exact World.block_lt_of_cell? _ _ o_r0_b3.1
                have bwal : Below w.heap.size w wal := by rw [ha]; exact bwb3.alloc bwb3.size _
                try rw [← hh]
                clear ha hh
                refine hK.out _ _ (StayS.mk ⟨o_m0_al.1, o_m1_al.1⟩) ?_
                clear hK K
                try simp only [Act.put, List.setIfInBounds_toArray, List.set_cons_zero, List.set_cons_succ]
                refine AnyS.one (i := 6) (by kernel_rfl) (AnyS.comes rfl (fun K hK => ?_))
                go_simp
                refine (DV.out _).mono ?_
                rintro e wc4 ⟨rfl, hbc4⟩
                have hsc4 : _ ≤ wc4.heap.size := hbc4.size
                try simp at hsc4
                have o_m0_c4 : Own wc4 g 0 (.int .i64 m.1) := own_kept hbc4 o_m0_al
                have o_m1_c4 : Own wc4 g 1 (.int .i64 m.2) := own_kept hbc4 o_m1_al
                have o_r0_c4 : Own wc4 w.heap.size 0 (.int .i64 0) := own_kept hbc4 o_r0_al
                have o_r1_c4 : Own wc4 w.heap.size 1 (.int .i64 0) := own_kept hbc4 o_r1_al
                have o_H0_c4 : Own wc4 h 0 (.int .i64 0) := own_kept hbc4 o_H0_al
                have o_H1_c4 : Own wc4 h 1 (.int .i64 0) := own_kept hbc4 o_H1_al
                have bwc4 : Below w.heap.size w wc4 := bwal.trans (hbc4.mono bwal.size)
                clear hbc4
                go_wp2_with fail
                refine hK.out _ _ (StayS.mk ⟨o_m0_c4.1, o_m1_c4.1⟩) ?_
                clear hK K
                try simp only [Act.put, List.setIfInBounds_toArray, List.set_cons_zero, List.set_cons_succ]
                have cH0 := o_H0_c4.1
                have cH1 := o_H1_c4.1
                have fH0 := o_H0_c4.2
                have fH1 := o_H1_c4.2
                refine AnyS.one (i := 8) (by kernel_rfl) (AnyS.comes rfl (fun K hK => ?_))
                go_simp
                refine hK.out _ _ (StayS.mk ⟨cell_far (by dsimp only; omega) (cell_far (by dsimp only; omega) o_m0_c4.1), cell_far (by dsimp only; omega) (cell_far (by dsimp only; omega) o_m1_c4.1)⟩) ?_
                clear hK K
                try simp only [Act.put, List.setIfInBounds_toArray, List.set_cons_zero, List.set_cons_succ]
                refine AnyS.done (by kernel_rfl) ?_ _
                go_wp2_with fail
                go_meet
                exact ⟨h, rfl, own_next (by decide) (own_put o_H0_c4), own_put (own_next (by decide) o_H1_c4), by omega, own_far (by dsimp only; omega) (own_far (by dsimp only; omega) o_r0_c4), own_far (by dsimp only; omega) (own_far (by dsimp only; omega) o_r1_c4), belB⟩
            · go_simp
              obtain ⟨h, hh⟩ : ∃ h, h = wb2.heap.size := ⟨_, rfl⟩
              obtain ⟨wal, ha⟩ : ∃ x, x = wb2.alloc (.cells #[.int .i64 0, .int .i64 0] 26) := ⟨_, rfl⟩
              skip
              rw [← ha]
              have o_H0_al : Own wal h 0 (.int .i64 0) := by rw [ha, hh]; exact ⟨by simp [go_sem], by simp [go_sem]⟩
              have o_H1_al : Own wal h 1 (.int .i64 0) := by rw [ha, hh]; exact ⟨by simp [go_sem], by simp [go_sem]⟩
              have o_m0_al : Own wal g 0 (.int .i64 m.1) := by rw [ha]; exact own_alloc o_m0_b2
              have o_m1_al : Own wal g 1 (.int .i64 m.2) := by rw [ha]; exact own_alloc o_m1_b2
              have o_r0_al : Own wal w.heap.size 0 (.int .i64 0) := by rw [ha]; exact own_alloc o_r0_b2
              have o_r1_al : Own wal w.heap.size 1 (.int .i64 0) := by rw [ha]; exact own_alloc o_r1_b2
              have lh_m : g < h := by rw [hh]; exact World.block_lt_of_cell? _ _ o_m0_b2.1
              have lh_r : w.heap.size < h := by rw [hh]; exact World.block_lt_of_cell? _ _ o_r0_b2.1
              have bwal : Below w.heap.size w wal := by rw [ha]; exact bwb2.alloc bwb2.size _
              try rw [← hh]
              clear ha hh
              refine hK.out _ _ (StayS.mk ⟨o_m0_al.1, o_m1_al.1⟩) ?_
              clear hK K
              try simp only [Act.put, List.setIfInBounds_toArray, List.set_cons_zero, List.set_cons_succ]
              refine AnyS.one (i := 5) (by kernel_rfl) (AnyS.comes rfl (fun K hK => ?_))
              go_simp
              refine (AD.out _).mono ?_
              rintro e wc3 ⟨rfl, hbc3⟩
              have hsc3 : _ ≤ wc3.heap.size := hbc3.size
              try simp at hsc3
              have o_m0_c3 : Own wc3 g 0 (.int .i64 m.1) := own_kept hbc3 o_m0_al
              have o_m1_c3 : Own wc3 g 1 (.int .i64 m.2) := own_kept hbc3 o_m1_al
              have o_r0_c3 : Own wc3 w.heap.size 0 (.int .i64 0) := own_kept hbc3 o_r0_al
              have o_r1_c3 : Own wc3 w.heap.size 1 (.int .i64 0) := own_kept hbc3 o_r1_al
              have o_H0_c3 : Own wc3 h 0 (.int .i64 0) := own_kept hbc3 o_H0_al
              have o_H1_c3 : Own wc3 h 1 (.int .i64 0) := own_kept hbc3 o_H1_al
              have bwc3 : Below w.heap.size w wc3 := bwal.trans (hbc3.mono bwal.size)
              clear hbc3
              go_wp2_with fail
              refine hK.out _ _ (StayS.mk ⟨o_m0_c3.1, o_m1_c3.1⟩) ?_
              clear hK K
              try simp only [Act.put, List.setIfInBounds_toArray, List.set_cons_zero, List.set_cons_succ]
              refine AnyS.one (i := 6) (by kernel_rfl) (AnyS.comes rfl (fun K hK => ?_))
              go_simp
              refine (DV.out _).mono ?_
              rintro e wc4 ⟨rfl, hbc4⟩
              have hsc4 : _ ≤ wc4.heap.size := hbc4.size
              try simp at hsc4
              have o_m0_c4 : Own wc4 g 0 (.int .i64 m.1) := own_kept hbc4 o_m0_c3
              have o_m1_c4 : Own wc4 g 1 (.int .i64 m.2) := own_kept hbc4 o_m1_c3
              have o_r0_c4 : Own wc4 w.heap.size 0 (.int .i64 0) := own_kept hbc4 o_r0_c3
              have o_r1_c4 : Own wc4 w.heap.size 1 (.int .i64 0) := own_kept hbc4 o_r1_c3
              have o_H0_c4 : Own wc4 h 0 (.int .i64 0) := own_kept hbc4 o_H0_c3
              have o_H1_c4 : Own wc4 h 1 (.int .i64 0) := own_kept hbc4 o_H1_c3
              have bwc4 : Below w.heap.size w wc4 := bwc3.trans (hbc4.mono bwc3.size)
              clear hbc4
              go_wp2_with fail
              refine hK.out _ _ (StayS.mk ⟨o_m0_c4.1, o_m1_c4.1⟩) ?_
              clear hK K
              try simp only [Act.put, List.setIfInBounds_toArray, List.set_cons_zero, List.set_cons_succ]
              have cH0 := o_H0_c4.1
              have cH1 := o_H1_c4.1
              have fH0 := o_H0_c4.2
              have fH1 := o_H1_c4.2
              refine AnyS.one (i := 8) (by kernel_rfl) (AnyS.comes rfl (fun K hK => ?_))
              go_simp
              refine hK.out _ _ (StayS.mk ⟨cell_far (by dsimp only; omega) (cell_far (by dsimp only; omega) o_m0_c4.1), cell_far (by dsimp only; omega) (cell_far (by dsimp only; omega) o_m1_c4.1)⟩) ?_
              clear hK K
              try simp only [Act.put, List.setIfInBounds_toArray, List.set_cons_zero, List.set_cons_succ]
              refine AnyS.done (by kernel_rfl) ?_ _
              go_wp2_with fail
              go_meet
              exact ⟨h, rfl, own_next (by decide) (own_put o_H0_c4), own_put (own_next (by decide) o_H1_c4), by omega, own_far (by dsimp only; omega) (own_far (by dsimp only; omega) o_r0_c4), own_far (by dsimp only; omega) (own_far (by dsimp only; omega) o_r1_c4), belB⟩
          · go_simp
            obtain ⟨h, hh⟩ : ∃ h, h = wb1.heap.size := ⟨_, rfl⟩
            obtain ⟨wal, ha⟩ : ∃ x, x = wb1.alloc (.cells #[.int .i64 0, .int .i64 0] 26) := ⟨_, rfl⟩
            skip
            rw [← ha]
            have o_H0_al : Own wal h 0 (.int .i64 0) := by rw [ha, hh]; exact ⟨by simp [go_sem], by simp [go_sem]⟩
            have o_H1_al : Own wal h 1 (.int .i64 0) := by rw [ha, hh]; exact ⟨by simp [go_sem], by simp [go_sem]⟩
            have o_m0_al : Own wal g 0 (.int .i64 m.1) := by rw [ha]; exact own_alloc o_m0_b1
            have o_m1_al : Own wal g 1 (.int .i64 m.2) := by rw [ha]; exact own_alloc o_m1_b1
            have o_r0_al : Own wal w.heap.size 0 (.int .i64 0) := by rw [ha]; exact own_alloc o_r0_b1
            have o_r1_al : Own wal w.heap.size 1 (.int .i64 0) := by rw [ha]; exact own_alloc o_r1_b1
            have lh_m : g < h := by rw [hh]; exact World.block_lt_of_cell? _ _ o_m0_b1.1
            have lh_r : w.heap.size < h := by rw [hh]; exact World.block_lt_of_cell? _ _ o_r0_b1.1
            have bwal : Below w.heap.size w wal := by rw [ha]; exact bwb1.alloc bwb1.size _
            try rw [← hh]
            clear ha hh
            refine hK.out _ _ (StayS.mk ⟨o_m0_al.1, o_m1_al.1⟩) ?_
            clear hK K
            try simp only [Act.put, List.setIfInBounds_toArray, List.set_cons_zero, List.set_cons_succ]
            refine AnyS.one (i := 4) (by kernel_rfl) (AnyS.comes rfl (fun K hK => ?_))
            go_simp
            refine (I1.out _).mono ?_
            rintro e wc2 ⟨rfl, hbc2⟩
            have hsc2 : _ ≤ wc2.heap.size := hbc2.size
            try simp at hsc2
            have o_m0_c2 : Own wc2 g 0 (.int .i64 m.1) := own_kept hbc2 o_m0_al
            have o_m1_c2 : Own wc2 g 1 (.int .i64 m.2) := own_kept hbc2 o_m1_al
            have o_r0_c2 : Own wc2 w.heap.size 0 (.int .i64 0) := own_kept hbc2 o_r0_al
            have o_r1_c2 : Own wc2 w.heap.size 1 (.int .i64 0) := own_kept hbc2 o_r1_al
            have o_H0_c2 : Own wc2 h 0 (.int .i64 0) := own_kept hbc2 o_H0_al
            have o_H1_c2 : Own wc2 h 1 (.int .i64 0) := own_kept hbc2 o_H1_al
            have bwc2 : Below w.heap.size w wc2 := bwal.trans (hbc2.mono bwal.size)
            clear hbc2
            go_wp2_with fail
            refine hK.out _ _ (StayS.mk ⟨o_m0_c2.1, o_m1_c2.1⟩) ?_
            clear hK K
            try simp only [Act.put, List.setIfInBounds_toArray, List.set_cons_zero, List.set_cons_succ]
            refine AnyS.one (i := 5) (by kernel_rfl) (AnyS.comes rfl (fun K hK => ?_))
            go_simp
            refine (AD.out _).mono ?_
            rintro e wc3 ⟨rfl, hbc3⟩
            have hsc3 : _ ≤ wc3.heap.size := hbc3.size
            try simp at hsc3
            have o_m0_c3 : Own wc3 g 0 (.int .i64 m.1) := own_kept hbc3 o_m0_c2
            have o_m1_c3 : Own wc3 g 1 (.int .i64 m.2) := own_kept hbc3 o_m1_c2
            have o_r0_c3 : Own wc3 w.heap.size 0 (.int .i64 0) := own_kept hbc3 o_r0_c2
            have o_r1_c3 : Own wc3 w.heap.size 1 (.int .i64 0) := own_kept hbc3 o_r1_c2
            have o_H0_c3 : Own wc3 h 0 (.int .i64 0) := own_kept hbc3 o_H0_c2
            have o_H1_c3 : Own wc3 h 1 (.int .i64 0) := own_kept hbc3 o_H1_c2
            have bwc3 : Below w.heap.size w wc3 := bwc2.trans (hbc3.mono bwc2.size)
            clear hbc3
            go_wp2_with fail
            refine hK.out _ _ (StayS.mk ⟨o_m0_c3.1, o_m1_c3.1⟩) ?_
            clear hK K
            try simp only [Act.put, List.setIfInBounds_toArray, List.set_cons_zero, List.set_cons_succ]
            refine AnyS.one (i := 6) (by kernel_rfl) (AnyS.comes rfl (fun K hK => ?_))
            go_simp
            refine (DV.out _).mono ?_
            rintro e wc4 ⟨rfl, hbc4⟩
            have hsc4 : _ ≤ wc4.heap.size := hbc4.size
            try simp at hsc4
            have o_m0_c4 : Own wc4 g 0 (.int .i64 m.1) := own_kept hbc4 o_m0_c3
            have o_m1_c4 : Own wc4 g 1 (.int .i64 m.2) := own_kept hbc4 o_m1_c3
            have o_r0_c4 : Own wc4 w.heap.size 0 (.int .i64 0) := own_kept hbc4 o_r0_c3
            have o_r1_c4 : Own wc4 w.heap.size 1 (.int .i64 0) := own_kept hbc4 o_r1_c3
            have o_H0_c4 : Own wc4 h 0 (.int .i64 0) := own_kept hbc4 o_H0_c3
            have o_H1_c4 : Own wc4 h 1 (.int .i64 0) := own_kept hbc4 o_H1_c3
            have bwc4 : Below w.heap.size w wc4 := bwc3.trans (hbc4.mono bwc3.size)
            clear hbc4
            go_wp2_with fail
            refine hK.out _ _ (StayS.mk ⟨o_m0_c4.1, o_m1_c4.1⟩) ?_
            clear hK K
            try simp only [Act.put, List.setIfInBounds_toArray, List.set_cons_zero, List.set_cons_succ]
            have cH0 := o_H0_c4.1
            have cH1 := o_H1_c4.1
            have fH0 := o_H0_c4.2
            have fH1 := o_H1_c4.2
            refine AnyS.one (i := 8) (by kernel_rfl) (AnyS.comes rfl (fun K hK => ?_))
            go_simp
            refine hK.out _ _ (StayS.mk ⟨cell_far (by dsimp only; omega) (cell_far (by dsimp only; omega) o_m0_c4.1), cell_far (by dsimp only; omega) (cell_far (by dsimp only; omega) o_m1_c4.1)⟩) ?_
            clear hK K
            try simp only [Act.put, List.setIfInBounds_toArray, List.set_cons_zero, List.set_cons_succ]
            refine AnyS.done (by kernel_rfl) ?_ _
            go_wp2_with fail
            go_meet
            exact ⟨h, rfl, own_next (by decide) (own_put o_H0_c4), own_put (own_next (by decide) o_H1_c4), by omega, own_far (by dsimp only; omega) (own_far (by dsimp only; omega) o_r0_c4), own_far (by dsimp only; omega) (own_far (by dsimp only; omega) o_r1_c4), belB⟩
        · go_simp
          obtain ⟨h, hh⟩ : ∃ h, h = wb0.heap.size := ⟨_, rfl⟩
          obtain ⟨wal, ha⟩ : ∃ x, x = wb0.alloc (.cells #[.int .i64 0, .int .i64 0] 26) := ⟨_, rfl⟩
          skip
          rw [← ha]
          have o_H0_al : Own wal h 0 (.int .i64 0) := by rw [ha, hh]; exact ⟨by simp [go_sem], by simp [go_sem]⟩
          have o_H1_al : Own wal h 1 (.int .i64 0) := by rw [ha, hh]; exact ⟨by simp [go_sem], by simp [go_sem]⟩
          have o_m0_al : Own wal g 0 (.int .i64 m.1) := by rw [ha]; exact own_alloc o_m0_b0
          have o_m1_al : Own wal g 1 (.int .i64 m.2) := by rw [ha]; exact own_alloc o_m1_b0
          have o_r0_al : Own wal w.heap.size 0 (.int .i64 0) := by rw [ha]; exact own_alloc o_r0_b0
          have o_r1_al : Own wal w.heap.size 1 (.int .i64 0) := by rw [ha]; exact own_alloc o_r1_b0
          have lh_m : g < h := by rw [hh]; exact World.block_lt_of_cell? _ _ o_m0_b0.1
          have lh_r : w.heap.size < h := by rw [hh]; exact World.block_lt_of_cell? _ _ o_r0_b0.1
          have bwal : Below w.heap.size w wal := by rw [ha]; exact bwb0.alloc bwb0.size _
          try rw [← hh]
          clear ha hh
          refine hK.out _ _ (StayS.mk ⟨o_m0_al.1, o_m1_al.1⟩) ?_
          clear hK K
          try simp only [Act.put, List.setIfInBounds_toArray, List.set_cons_zero, List.set_cons_succ]
          refine AnyS.one (i := 2) (by kernel_rfl) (AnyS.comes rfl (fun K hK => ?_))
          go_simp
          refine (SB.out _).mono ?_
          rintro e wc1 ⟨rfl, hbc1⟩
          have hsc1 : _ ≤ wc1.heap.size := hbc1.size
          try simp at hsc1
          have o_m0_c1 : Own wc1 g 0 (.int .i64 m.1) := own_kept hbc1 o_m0_al
          have o_m1_c1 : Own wc1 g 1 (.int .i64 m.2) := own_kept hbc1 o_m1_al
          have o_r0_c1 : Own wc1 w.heap.size 0 (.int .i64 0) := own_kept hbc1 o_r0_al
          have o_r1_c1 : Own wc1 w.heap.size 1 (.int .i64 0) := own_kept hbc1 o_r1_al
          have o_H0_c1 : Own wc1 h 0 (.int .i64 0) := own_kept hbc1 o_H0_al
          have o_H1_c1 : Own wc1 h 1 (.int .i64 0) := own_kept hbc1 o_H1_al
          have bwc1 : Below w.heap.size w wc1 := bwal.trans (hbc1.mono bwal.size)
          clear hbc1
          go_wp2_with fail
          refine hK.out _ _ (StayS.mk ⟨o_m0_c1.1, o_m1_c1.1⟩) ?_
          clear hK K
          try simp only [Act.put, List.setIfInBounds_toArray, List.set_cons_zero, List.set_cons_succ]
          refine AnyS.one (i := 4) (by kernel_rfl) (AnyS.comes rfl (fun K hK => ?_))
          go_simp
          refine (I1.out _).mono ?_
          rintro e wc2 ⟨rfl, hbc2⟩
          have hsc2 : _ ≤ wc2.heap.size := hbc2.size
          try simp at hsc2
          have o_m0_c2 : Own wc2 g 0 (.int .i64 m.1) := own_kept hbc2 o_m0_c1
          have o_m1_c2 : Own wc2 g 1 (.int .i64 m.2) := own_kept hbc2 o_m1_c1
          have o_r0_c2 : Own wc2 w.heap.size 0 (.int .i64 0) := own_kept hbc2 o_r0_c1
          have o_r1_c2 : Own wc2 w.heap.size 1 (.int .i64 0) := own_kept hbc2 o_r1_c1
          have o_H0_c2 : Own wc2 h 0 (.int .i64 0) := own_kept hbc2 o_H0_c1
          have o_H1_c2 : Own wc2 h 1 (.int .i64 0) := own_kept hbc2 o_H1_c1
          have bwc2 : Below w.heap.size w wc2 := bwc1.trans (hbc2.mono bwc1.size)
          clear hbc2
          go_wp2_with fail
          refine hK.out _ _ (StayS.mk ⟨o_m0_c2.1, o_m1_c2.1⟩) ?_
          clear hK K
          try simp only [Act.put, List.setIfInBounds_toArray, List.set_cons_zero, List.set_cons_succ]
          refine AnyS.one (i := 5) (by kernel_rfl) (AnyS.comes rfl (fun K hK => ?_))
          go_simp
          refine (AD.out _).mono ?_
          rintro e wc3 ⟨rfl, hbc3⟩
          have hsc3 : _ ≤ wc3.heap.size := hbc3.size
          try simp at hsc3
          have o_m0_c3 : Own wc3 g 0 (.int .i64 m.1) := own_kept hbc3 o_m0_c2
          have o_m1_c3 : Own wc3 g 1 (.int .i64 m.2) := own_kept hbc3 o_m1_c2
          have o_r0_c3 : Own wc3 w.heap.size 0 (.int .i64 0) := own_kept hbc3 o_r0_c2
          have o_r1_c3 : Own wc3 w.heap.size 1 (.int .i64 0) := own_kept hbc3 o_r1_c2
          have o_H0_c3 : Own wc3 h 0 (.int .i64 0) := own_kept hbc3 o_H0_c2
          have o_H1_c3 : Own wc3 h 1 (.int .i64 0) := own_kept hbc3 o_H1_c2
          have bwc3 : Below w.heap.size w wc3 := bwc2.trans (hbc3.mono bwc2.size)
          clear hbc3
          go_wp2_with fail
          refine hK.out _ _ (StayS.mk ⟨o_m0_c3.1, o_m1_c3.1⟩) ?_
          clear hK K
          try simp only [Act.put, List.setIfInBounds_toArray, List.set_cons_zero, List.set_cons_succ]
          refine AnyS.one (i := 6) (by kernel_rfl) (AnyS.comes rfl (fun K hK => ?_))
          go_simp
          refine (DV.out _).mono ?_
          rintro e wc4 ⟨rfl, hbc4⟩
          have hsc4 : _ ≤ wc4.heap.size := hbc4.size
          try simp at hsc4
          have o_m0_c4 : Own wc4 g 0 (.int .i64 m.1) := own_kept hbc4 o_m0_c3
          have o_m1_c4 : Own wc4 g 1 (.int .i64 m.2) := own_kept hbc4 o_m1_c3
          have o_r0_c4 : Own wc4 w.heap.size 0 (.int .i64 0) := own_kept hbc4 o_r0_c3
          have o_r1_c4 : Own wc4 w.heap.size 1 (.int .i64 0) := own_kept hbc4 o_r1_c3
          have o_H0_c4 : Own wc4 h 0 (.int .i64 0) := own_kept hbc4 o_H0_c3
          have o_H1_c4 : Own wc4 h 1 (.int .i64 0) := own_kept hbc4 o_H1_c3
          have bwc4 : Below w.heap.size w wc4 := bwc3.trans (hbc4.mono bwc3.size)
          clear hbc4
          go_wp2_with fail
          refine hK.out _ _ (StayS.mk ⟨o_m0_c4.1, o_m1_c4.1⟩) ?_
          clear hK K
          try simp only [Act.put, List.setIfInBounds_toArray, List.set_cons_zero, List.set_cons_succ]
          have cH0 := o_H0_c4.1
          have cH1 := o_H1_c4.1
          have fH0 := o_H0_c4.2
          have fH1 := o_H1_c4.2
          refine AnyS.one (i := 8) (by kernel_rfl) (AnyS.comes rfl (fun K hK => ?_))
          go_simp
          refine hK.out _ _ (StayS.mk ⟨cell_far (by dsimp only; omega) (cell_far (by dsimp only; omega) o_m0_c4.1), cell_far (by dsimp only; omega) (cell_far (by dsimp only; omega) o_m1_c4.1)⟩) ?_
          clear hK K
          try simp only [Act.put, List.setIfInBounds_toArray, List.set_cons_zero, List.set_cons_succ]
          refine AnyS.done (by kernel_rfl) ?_ _
          go_wp2_with fail
          go_meet
          exact ⟨h, rfl, own_next (by decide) (own_put o_H0_c4), own_put (own_next (by decide) o_H1_c4), by omega, own_far (by dsimp only; omega) (own_far (by dsimp only; omega) o_r0_c4), own_far (by dsimp only; omega) (own_far (by dsimp only; omega) o_r1_c4), belB⟩
      · go_simp
        obtain ⟨h, hh⟩ : ∃ h, h = wd.heap.size := ⟨_, rfl⟩
        obtain ⟨wal, ha⟩ : ∃ x, x = wd.alloc (.cells #[.int .i64 0, .int .i64 0] 26) := ⟨_, rfl⟩
        skip
        rw [← ha]
        have o_H0_al : Own wal h 0 (.int .i64 0) := by rw [ha, hh]; exact ⟨by simp [go_sem], by simp [go_sem]⟩
        have o_H1_al : Own wal h 1 (.int .i64 0) := by rw [ha, hh]; exact ⟨by simp [go_sem], by simp [go_sem]⟩
        have o_m0_al : Own wal g 0 (.int .i64 m.1) := by rw [ha]; exact own_alloc o_m0_d
        have o_m1_al : Own wal g 1 (.int .i64 m.2) := by rw [ha]; exact own_alloc o_m1_d
        have o_r0_al : Own wal w.heap.size 0 (.int .i64 0) := by rw [ha]; exact own_alloc o_r0_d
        have o_r1_al : Own wal w.heap.size 1 (.int .i64 0) := by rw [ha]; exact own_alloc o_r1_d
        have lh_m : g < h := by rw [hh]; exact World.block_lt_of_cell? _ _ o_m0_d.1
        have lh_r : w.heap.size < h := by rw [hh]; exact World.block_lt_of_cell? _ _ o_r0_d.1
        have bwal : Below w.heap.size w wal := by rw [ha]; exact bwd.alloc bwd.size _
        try rw [← hh]
        clear ha hh
        refine hK.out _ _ (StayS.mk ⟨o_m0_al.1, o_m1_al.1⟩) ?_
        clear hK K
        try simp only [Act.put, List.setIfInBounds_toArray, List.set_cons_zero, List.set_cons_succ]
        refine AnyS.one (i := 1) (by kernel_rfl) (AnyS.comes rfl (fun K hK => ?_))
        go_simp
        refine (I1.out _).mono ?_
        rintro e wc0 ⟨rfl, hbc0⟩
        have hsc0 : _ ≤ wc0.heap.size := hbc0.size
        try simp at hsc0
        have o_m0_c0 : Own wc0 g 0 (.int .i64 m.1) := own_kept hbc0 o_m0_al
        have o_m1_c0 : Own wc0 g 1 (.int .i64 m.2) := own_kept hbc0 o_m1_al
        have o_r0_c0 : Own wc0 w.heap.size 0 (.int .i64 0) := own_kept hbc0 o_r0_al
        have o_r1_c0 : Own wc0 w.heap.size 1 (.int .i64 0) := own_kept hbc0 o_r1_al
        have o_H0_c0 : Own wc0 h 0 (.int .i64 0) := own_kept hbc0 o_H0_al
        have o_H1_c0 : Own wc0 h 1 (.int .i64 0) := own_kept hbc0 o_H1_al
        have bwc0 : Below w.heap.size w wc0 := bwal.trans (hbc0.mono bwal.size)
        clear hbc0
        go_wp2_with fail
        refine hK.out _ _ (StayS.mk ⟨o_m0_c0.1, o_m1_c0.1⟩) ?_
        clear hK K
        try simp only [Act.put, List.setIfInBounds_toArray, List.set_cons_zero, List.set_cons_succ]
        refine AnyS.one (i := 2) (by kernel_rfl) (AnyS.comes rfl (fun K hK => ?_))
        go_simp
        refine (SB.out _).mono ?_
        rintro e wc1 ⟨rfl, hbc1⟩
        have hsc1 : _ ≤ wc1.heap.size := hbc1.size
        try simp at hsc1
        have o_m0_c1 : Own wc1 g 0 (.int .i64 m.1) := own_kept hbc1 o_m0_c0
        have o_m1_c1 : Own wc1 g 1 (.int .i64 m.2) := own_kept hbc1 o_m1_c0
        have o_r0_c1 : Own wc1 w.heap.size 0 (.int .i64 0) := own_kept hbc1 o_r0_c0
        have o_r1_c1 : Own wc1 w.heap.size 1 (.int .i64 0) := own_kept hbc1 o_r1_c0
        have o_H0_c1 : Own wc1 h 0 (.int .i64 0) := own_kept hbc1 o_H0_c0
        have o_H1_c1 : Own wc1 h 1 (.int .i64 0) := own_kept hbc1 o_H1_c0
        have bwc1 : Below w.heap.size w wc1 := bwc0.trans (hbc1.mono bwc0.size)
        clear hbc1
        go_wp2_with fail
        refine hK.out _ _ (StayS.mk ⟨o_m0_c1.1, o_m1_c1.1⟩) ?_
        clear hK K
        try simp only [Act.put, List.setIfInBounds_toArray, List.set_cons_zero, List.set_cons_succ]
        refine AnyS.one (i := 4) (by kernel_rfl) (AnyS.comes rfl (fun K hK => ?_))
        go_simp
        refine (I1.out _).mono ?_
        rintro e wc2 ⟨rfl, hbc2⟩
        have hsc2 : _ ≤ wc2.heap.size := hbc2.size
        try simp at hsc2
        have o_m0_c2 : Own wc2 g 0 (.int .i64 m.1) := own_kept hbc2 o_m0_c1
        have o_m1_c2 : Own wc2 g 1 (.int .i64 m.2) := own_kept hbc2 o_m1_c1
        have o_r0_c2 : Own wc2 w.heap.size 0 (.int .i64 0) := own_kept hbc2 o_r0_c1
        have o_r1_c2 : Own wc2 w.heap.size 1 (.int .i64 0) := own_kept hbc2 o_r1_c1
        have o_H0_c2 : Own wc2 h 0 (.int .i64 0) := own_kept hbc2 o_H0_c1
        have o_H1_c2 : Own wc2 h 1 (.int .i64 0) := own_kept hbc2 o_H1_c1
        have bwc2 : Below w.heap.size w wc2 := bwc1.trans (hbc2.mono bwc1.size)
        clear hbc2
        go_wp2_with fail
        refine hK.out _ _ (StayS.mk ⟨o_m0_c2.1, o_m1_c2.1⟩) ?_
        clear hK K
        try simp only [Act.put, List.setIfInBounds_toArray, List.set_cons_zero, List.set_cons_succ]
        refine AnyS.one (i := 5) (by kernel_rfl) (AnyS.comes rfl (fun K hK => ?_))
        go_simp
        refine (AD.out _).mono ?_
        rintro e wc3 ⟨rfl, hbc3⟩
        have hsc3 : _ ≤ wc3.heap.size := hbc3.size
        try simp at hsc3
        have o_m0_c3 : Own wc3 g 0 (.int .i64 m.1) := own_kept hbc3 o_m0_c2
        have o_m1_c3 : Own wc3 g 1 (.int .i64 m.2) := own_kept hbc3 o_m1_c2
        have o_r0_c3 : Own wc3 w.heap.size 0 (.int .i64 0) := own_kept hbc3 o_r0_c2
        have o_r1_c3 : Own wc3 w.heap.size 1 (.int .i64 0) := own_kept hbc3 o_r1_c2
        have o_H0_c3 : Own wc3 h 0 (.int .i64 0) := own_kept hbc3 o_H0_c2
        have o_H1_c3 : Own wc3 h 1 (.int .i64 0) := own_kept hbc3 o_H1_c2
        have bwc3 : Below w.heap.size w wc3 := bwc2.trans (hbc3.mono bwc2.size)
        clear hbc3
        go_wp2_with fail
        refine hK.out _ _ (StayS.mk ⟨o_m0_c3.1, o_m1_c3.1⟩) ?_
        clear hK K
        try simp only [Act.put, List.setIfInBounds_toArray, List.set_cons_zero, List.set_cons_succ]
        refine AnyS.one (i := 6) (by kernel_rfl) (AnyS.comes rfl (fun K hK => ?_))
        go_simp
        refine (DV.out _).mono ?_
        rintro e wc4 ⟨rfl, hbc4⟩
        have hsc4 : _ ≤ wc4.heap.size := hbc4.size
        try simp at hsc4
        have o_m0_c4 : Own wc4 g 0 (.int .i64 m.1) := own_kept hbc4 o_m0_c3
        have o_m1_c4 : Own wc4 g 1 (.int .i64 m.2) := own_kept hbc4 o_m1_c3
        have o_r0_c4 : Own wc4 w.heap.size 0 (.int .i64 0) := own_kept hbc4 o_r0_c3
        have o_r1_c4 : Own wc4 w.heap.size 1 (.int .i64 0) := own_kept hbc4 o_r1_c3
        have o_H0_c4 : Own wc4 h 0 (.int .i64 0) := own_kept hbc4 o_H0_c3
        have o_H1_c4 : Own wc4 h 1 (.int .i64 0) := own_kept hbc4 o_H1_c3
        have bwc4 : Below w.heap.size w wc4 := bwc3.trans (hbc4.mono bwc3.size)
        clear hbc4
        go_wp2_with fail
        refine hK.out _ _ (StayS.mk ⟨o_m0_c4.1, o_m1_c4.1⟩) ?_
        clear hK K
        try simp only [Act.put, List.setIfInBounds_toArray, List.set_cons_zero, List.set_cons_succ]
        have cH0 := o_H0_c4.1
        have cH1 := o_H1_c4.1
        have fH0 := o_H0_c4.2
        have fH1 := o_H1_c4.2
        refine AnyS.one (i := 8) (by kernel_rfl) (AnyS.comes rfl (fun K hK => ?_))
        go_simp
        refine hK.out _ _ (StayS.mk ⟨cell_far (by dsimp only; omega) (cell_far (by dsimp only; omega) o_m0_c4.1), cell_far (by dsimp only; omega) (cell_far (by dsimp only; omega) o_m1_c4.1)⟩) ?_
        clear hK K
        try simp only [Act.put, List.setIfInBounds_toArray, List.set_cons_zero, List.set_cons_succ]
        refine AnyS.done (by kernel_rfl) ?_ _
        go_wp2_with fail
        go_meet
        exact ⟨h, rfl, own_next (by decide) (own_put o_H0_c4), own_put (own_next (by decide) o_H1_c4), by omega, own_far (by dsimp only; omega) (own_far (by dsimp only; omega) o_r0_c4), own_far (by dsimp only; omega) (own_far (by dsimp only; omega) o_r1_c4), belB⟩
    case rest =>
      obtain ⟨h, rfl, V0, V1, lh, S0, S1, hb⟩ := hcut
      have hsb := hb.size
      obtain ⟨g2, g3⟩ : GloT wc := hg.kept hb
      have l1 : 1 < wc.heap.size := World.block_lt_of_cell? _ _ g2
      obtain ⟨cv0, fv0⟩ := id V0
      obtain ⟨cv1, fv1⟩ := id V1
      have lh2 : h < wc.heap.size := World.block_lt_of_cell? _ _ cv0
      go_wp2_with fail
      have z0 := pslot_of (w := wc) (a := ⟨w.heap.size, 0, none⟩) (v := .int .i64 0) S0.1 S0.2
      have z1 := pslot_of (w := wc) (a := ⟨w.heap.size, 1, none⟩) (v := .int .i64 0) S1.1 S1.2
      obtain ⟨hlt2, hlt3, hlt4, hlt5, hlt6, hlt7, hlt8, hlt9, hlt10, hlt11⟩ := below_add; go_region_held3 (fun w' => w'.cell? ⟨h, 0, none⟩ = some (.int .i64 z.1) ∧ w'.cell? ⟨h, 1, none⟩ = some (.int .i64 z.2) ∧ w'.cell? ⟨1, 0, none⟩ = some (.int .i64 (-1)) ∧ w'.cell? ⟨1, 1, none⟩ = some (.int .i64 1) ∧ (w'.cell? ⟨w.heap.size, 0, none⟩ = some (peek w' ⟨w.heap.size, 0, none⟩) ∧ w'.frozen? ⟨w.heap.size, 0, none⟩ = false) ∧ (w'.cell? ⟨w.heap.size, 1, none⟩ = some (peek w' ⟨w.heap.size, 1, none⟩) ∧ w'.frozen? ⟨w.heap.size, 1, none⟩ = false)) (first | (with_reducible exact ((And.imp (cell_kept (by assumption)) (And.imp (cell_kept (by assumption)) (And.imp (cell_kept (by assumption)) (And.imp (cell_kept (by assumption)) (And.imp (pslot_kept (by assumption)) (pslot_kept (by assumption))))))) (by assumption))) | (with_reducible exact ((And.imp (cell_alloc) (And.imp (cell_alloc) (And.imp (cell_alloc) (And.imp (cell_alloc) (And.imp (pslot_alloc) (pslot_alloc)))))) (by assumption))) | (with_reducible exact ((And.imp (fun h => cell_far (by first | (simp; done) | (simp; omega) | (dsimp only; omega)) (cell_far (by first | (simp; done) | (simp; omega) | (dsimp only; omega)) h)) (And.imp (fun h => cell_far (by first | (simp; done) | (simp; omega) | (dsimp only; omega)) (cell_far (by first | (simp; done) | (simp; omega) | (dsimp only; omega)) h)) (And.imp (fun h => cell_far (by first | (simp; done) | (simp; omega) | (dsimp only; omega)) (cell_far (by first | (simp; done) | (simp; omega) | (dsimp only; omega)) h)) (And.imp (fun h => cell_far (by first | (simp; done) | (simp; omega) | (dsimp only; omega)) (cell_far (by first | (simp; done) | (simp; omega) | (dsimp only; omega)) h)) (And.imp (fun h => pslot_set (pslot_set h)) (fun h => pslot_set (pslot_set h))))))) (by assumption))) | (refine ⟨?_, ?_, ?_, ?_, ?_, ?_⟩ <;> repeat (first | (with_reducible assumption) | (with_reducible refine cell_far (by first | (simp; done) | (simp; omega) | (dsimp only; omega)) ?_) | (with_reducible refine cell_drew ?_) | (with_reducible refine cell_drewN ?_) | (with_reducible refine cell_kept (by assumption) ?_) | (with_reducible exact pslot_of (by assumption) (by assumption)) | (with_reducible refine pslot_drew ?_) | (with_reducible refine pslot_kept (by assumption) ?_) | (with_reducible refine pslot_alloc ?_) | (simp [go_sem]; done) | (with_reducible refine cell_alloc ?_))) | (simp [go_sem, *]; done)) (first | (go_at_call 156; refine (L2.out _).mono ?_; rintro e w1 ⟨rfl, hb⟩; have hs : _ ≤ w1.heap.size := hb.size; (try simp at hs); obtain ⟨hc, hf, hl, hn, hm⟩ := behind hb) | (go_at_call 199; refine (LS.out _ (GloT.mk (by simp [go_sem, *]) (by simp [go_sem, *]))).mono ?_; rintro e w1 ⟨rfl, hb⟩; have hs : _ ≤ w1.heap.size := hb.size; (try simp at hs); obtain ⟨hc, hf, hl, hn, hm⟩ := behind hb) | (go_at_call 73; refine (AF.out _).mono ?_; rintro e w1 ⟨rfl, hb⟩; have hs : _ ≤ w1.heap.size := hb.size; (try simp at hs); obtain ⟨hc, hf, hl, hn, hm⟩ := behind hb))
      all_goals (go_wp2; have o_j0 : Own (w1) (w.heap.size) 0 (.int .i64 0) := ownJ; obtain ⟨j0, f_j0⟩ := o_j0; have o_j1 : Own (w1) (w.heap.size) 1 (.int .i64 0) := ownJ; obtain ⟨j1, f_j1⟩ := o_j1; exact bodyPost_ret (v := .agg #[.int .i64 (y).1, .int .i64 (y).2]) (by simp [results, Tryz.results157, go_sem, j0, j1]) rfl ⟨by rw [E.out], belB⟩)
  · have hE : logE n = d := by have := hB c; omega
    have HM : logM n = shfI (n, n) (-d) := by unfold logM; rw [hE]
    have HZ : logZ n = divI (subI (shfI (n, n) (-d)) (intI 1)) (addI (shfI (n, n) (-d)) (intI 1)) := by unfold logZ; rw [HM]
    have HF : logF n = addI (ln2 d) (logW (logZ n)) := by rw [logF_yes h, hE]
    have G0 : decide (6442450944 ≤ (shfI (n, n) (-d)).1) = false := decide_eq_false c
    have LS := fun w hg => logSeries_any (logZ n) (by rw [HZ]; exact res_ok (div_res _ _)) w hg
    have L2 := Lib.hid (fun w => LogTwoI_any d w)
    have AF := fun w => AddI_any (ln2 d) (logW (logZ n)) w
    rw [← HF] at AF
    obtain ⟨y, hy⟩ : ∃ y, y = logF n := ⟨_, rfl⟩
    have E := Lib.hid hy.symm
    rw [← hy] at AF
    have AF_ := Lib.hid AF
    clear AF
    have AF := AF_
    clear AF_
    generalize logW (logZ n) = lw at *
    obtain ⟨z, hz⟩ : ∃ z, z = logZ n := ⟨_, rfl⟩
    rw [← hz] at LS HZ
    have LS_ := Lib.hid LS
    clear LS
    have LS := LS_
    clear LS_
    have SB := Lib.hid (fun w => SubI_any (shfI (n, n) (-d)) (intI 1) w)
    have AD := Lib.hid (fun w => AddI_any (shfI (n, n) (-d)) (intI 1) w)
    have DV := fun w => DivI_any (subI (shfI (n, n) (-d)) (intI 1)) (addI (shfI (n, n) (-d)) (intI 1)) (res_ok (sub_res _ _)) (res_ok (add_res _ _)) w
    rw [← HZ] at DV
    have DV_ := Lib.hid DV
    clear DV
    have DV := DV_
    clear DV_
    clear hA hB hE HM HZ HF hy hz c h he
    generalize logF n = Y at *
    generalize logZ n = z' at *
    generalize subI (shfI (n, n) (-d)) (intI 1) = s1 at *
    generalize addI (shfI (n, n) (-d)) (intI 1) = s2 at *
    generalize intI 1 = i1 at *
    generalize ln2 d = l2 at *
    generalize shfI (n, n) (-d) = m at *
    go_enter Tryz.func157, Tryz.ntmps157
    go_wp2_with fail
    refine (ValidFix_any n _).mono ?_
    rintro e w0 ⟨rfl, rfl⟩
    try rw [O]
    go_wp2_with fail
    refine (LE.out _).mono ?_
    rintro e w0 ⟨rfl, rfl⟩
    go_wp2_with fail
    try rw [WS]
    refine (SG.out _).mono ?_
    rintro e w1 ⟨rfl, hb1⟩
    have hs1 : _ ≤ w1.heap.size := hb1.size
    try simp at hs1
    have o_q10 : Own (w1) (w.heap.size) 0 (.int .i64 0) := ownJ; have q10 := o_q10.1; have f_q10 := o_q10.2; have o_q11 : Own (w1) (w.heap.size) 1 (.int .i64 0) := ownJ; have q11 := o_q11.1; have f_q11 := o_q11.2
    go_wp2_with fail
    try rw [WS]
    refine (M1.out _).mono ?_
    rintro e w2 ⟨rfl, hb2⟩
    have hs2 : _ ≤ w2.heap.size := hb2.size
    try simp at hs2
    have o_q20 : Own (w2) (w.heap.size) 0 (.int .i64 0) := ownJ; have q20 := o_q20.1; have f_q20 := o_q20.2; have o_q21 : Own (w2) (w.heap.size) 1 (.int .i64 0) := ownJ; have q21 := o_q21.1; have f_q21 := o_q21.2
    obtain ⟨g, hg'⟩ : ∃ g, g = w2.heap.size := ⟨_, rfl⟩
    have lrg : w.heap.size < g := by rw [hg']; exact World.block_lt_of_cell? _ _ q20
    go_upto_region 8 with fail
    rw [← hg']
    obtain ⟨u, hu⟩ : ∃ x, x = w2.alloc (.cells #[.int .i64 m.1, .int .i64 m.2] 26) := ⟨_, rfl⟩
    rw [← hu]
    have P0 : Own u g 0 (.int .i64 m.1) := by rw [hu]; rw [hg']; exact ⟨by simp [go_sem], by simp [go_sem]⟩
    have P1 : Own u g 1 (.int .i64 m.2) := by rw [hu]; rw [hg']; exact ⟨by simp [go_sem], by simp [go_sem]⟩
    have R0 : Own u w.heap.size 0 (.int .i64 0) := by rw [hu]; exact own_alloc o_q20
    have R1 : Own u w.heap.size 1 (.int .i64 0) := by rw [hu]; exact own_alloc o_q21
    have bu : Below w.heap.size w u := by rw [hu]; exact belB
    clear hu
    clear hg' hb1 hb2 hs1 hs2 o_q10 o_q11 o_q20 o_q21 q10 q11 q20 q21 f_q10 f_q11 f_q20 f_q21
    have bs := bu.size
    obtain ⟨cm0, fm0⟩ := id P0
    obtain ⟨cm1, fm1⟩ := id P1
    have lu : g < u.heap.size := World.block_lt_of_cell? _ _ cm0
    have lr := World.block_lt_of_cell? _ _ R0.1
    go_cut [5] (fun s5 wx => ∃ h : Nat, s5 = .pointer (some ⟨h, 0, none⟩) ∧ Own wx h 0 (.int .i64 z.1) ∧ Own wx h 1 (.int .i64 z.2) ∧ w.heap.size < h ∧ Own wx w.heap.size 0 (.int .i64 0) ∧ Own wx w.heap.size 1 (.int .i64 0) ∧ Below w.heap.size w wx)
    case first =>
      have o_m0 := P0
      have o_m1 := P1
      have o_r0 := R0
      have o_r1 := R1
      refine AnyS.region (S := StayS (fun u => u.cell? ⟨g, 0, none⟩ = some (.int .i64 m.1) ∧ u.cell? ⟨g, 1, none⟩ = some (.int .i64 m.2))) (by kernel_rfl) (show AnyS _ _ _ _ _ 9 _ _ _ from ?_)
      have o_m0_0 := own_drew o_m0
      have o_m1_0 := own_drew o_m1
      have o_r0_0 := own_drew o_r0
      have o_r1_0 := own_drew o_r1
      refine AnyS.take (i := 0) (v := .agg #[.int .i64 m.1, .int .i64 m.2]) (T := fun u => u.cell? ⟨g, 0, none⟩ = some (.int .i64 m.1) ∧ u.cell? ⟨g, 1, none⟩ = some (.int .i64 m.2)) [] rfl (by kernel_rfl) (by kernel_rfl) (by kernel_rfl) (by kernel_rfl) (by kernel_rfl) (fun _ _ _ h => h) (fun L u q s => s) (fun L u s => s) (Or.inl ⟨by rfl, ?_⟩) (StayS.mk ⟨o_m0_0.1, o_m1_0.1⟩) ?_
      · intro u hu
        obtain ⟨u0, u1⟩ := hu
        go_simp
      try simp only [Act.put, List.setIfInBounds_toArray, List.set_cons_zero, List.set_cons_succ]
      refine AnyS.take (i := 3) (v := .agg #[.int .i64 m.1, .int .i64 m.2]) (T := fun u => u.cell? ⟨g, 0, none⟩ = some (.int .i64 m.1) ∧ u.cell? ⟨g, 1, none⟩ = some (.int .i64 m.2)) [] rfl (by kernel_rfl) (by kernel_rfl) (by kernel_rfl) (by kernel_rfl) (by kernel_rfl) (fun _ _ _ h => h) (fun L u q s => s) (fun L u s => s) (Or.inl ⟨by rfl, ?_⟩) (StayS.mk ⟨o_m0_0.1, o_m1_0.1⟩) ?_
      · intro u hu
        obtain ⟨u0, u1⟩ := hu
        go_simp
      try simp only [Act.put, List.setIfInBounds_toArray, List.set_cons_zero, List.set_cons_succ]
      obtain ⟨wd, hwd⟩ : ∃ x, x = u.drew := ⟨_, rfl⟩
      rw [← hwd]
      have o_m0_d : Own wd g 0 (.int .i64 m.1) := by rw [hwd]; exact o_m0_0
      have o_m1_d : Own wd g 1 (.int .i64 m.2) := by rw [hwd]; exact o_m1_0
      have o_r0_d : Own wd w.heap.size 0 (.int .i64 0) := by rw [hwd]; exact o_r0_0
      have o_r1_d : Own wd w.heap.size 1 (.int .i64 0) := by rw [hwd]; exact o_r1_0
      have bwd : Below w.heap.size w wd := by rw [hwd]; exact belB
      clear hwd
      refine AnyS.two (i := 1) (j := 7) (by kernel_rfl) (AnyS.comes rfl (fun K hK => ?_)) (AnyS.comes rfl (fun K hK => ?_))
      · go_simp
        refine (I1.out _).mono ?_
        rintro e wb0 ⟨rfl, hbb0⟩
        have hsb0 : _ ≤ wb0.heap.size := hbb0.size
        try simp at hsb0
        have o_m0_b0 : Own wb0 g 0 (.int .i64 m.1) := own_kept hbb0 o_m0_d
        have o_m1_b0 : Own wb0 g 1 (.int .i64 m.2) := own_kept hbb0 o_m1_d
        have o_r0_b0 : Own wb0 w.heap.size 0 (.int .i64 0) := own_kept hbb0 o_r0_d
        have o_r1_b0 : Own wb0 w.heap.size 1 (.int .i64 0) := own_kept hbb0 o_r1_d
        have bwb0 : Below w.heap.size w wb0 := bwd.trans (hbb0.mono bwd.size)
        clear hbb0
        go_wp2_with fail
        refine hK.out _ _ (StayS.mk ⟨o_m0_b0.1, o_m1_b0.1⟩) ?_
        clear hK K
        try simp only [Act.put, List.setIfInBounds_toArray, List.set_cons_zero, List.set_cons_succ]
        refine AnyS.two (i := 2) (j := 7) (by kernel_rfl) (AnyS.comes rfl (fun K hK => ?_)) (AnyS.comes rfl (fun K hK => ?_))
        · go_simp
          refine (SB.out _).mono ?_
          rintro e wb1 ⟨rfl, hbb1⟩
          have hsb1 : _ ≤ wb1.heap.size := hbb1.size
          try simp at hsb1
          have o_m0_b1 : Own wb1 g 0 (.int .i64 m.1) := own_kept hbb1 o_m0_b0
          have o_m1_b1 : Own wb1 g 1 (.int .i64 m.2) := own_kept hbb1 o_m1_b0
          have o_r0_b1 : Own wb1 w.heap.size 0 (.int .i64 0) := own_kept hbb1 o_r0_b0
          have o_r1_b1 : Own wb1 w.heap.size 1 (.int .i64 0) := own_kept hbb1 o_r1_b0
          have bwb1 : Below w.heap.size w wb1 := bwb0.trans (hbb1.mono bwb0.size)
          clear hbb1
          go_wp2_with fail
          refine hK.out _ _ (StayS.mk ⟨o_m0_b1.1, o_m1_b1.1⟩) ?_
          clear hK K
          try simp only [Act.put, List.setIfInBounds_toArray, List.set_cons_zero, List.set_cons_succ]
          refine AnyS.two (i := 4) (j := 7) (by kernel_rfl) (AnyS.comes rfl (fun K hK => ?_)) (AnyS.comes rfl (fun K hK => ?_))
          · go_simp
            refine (I1.out _).mono ?_
            rintro e wb2 ⟨rfl, hbb2⟩
            have hsb2 : _ ≤ wb2.heap.size := hbb2.size
            try simp at hsb2
            have o_m0_b2 : Own wb2 g 0 (.int .i64 m.1) := own_kept hbb2 o_m0_b1
            have o_m1_b2 : Own wb2 g 1 (.int .i64 m.2) := own_kept hbb2 o_m1_b1
            have o_r0_b2 : Own wb2 w.heap.size 0 (.int .i64 0) := own_kept hbb2 o_r0_b1
            have o_r1_b2 : Own wb2 w.heap.size 1 (.int .i64 0) := own_kept hbb2 o_r1_b1
            have bwb2 : Below w.heap.size w wb2 := bwb1.trans (hbb2.mono bwb1.size)
            clear hbb2
            go_wp2_with fail
            refine hK.out _ _ (StayS.mk ⟨o_m0_b2.1, o_m1_b2.1⟩) ?_
            clear hK K
            try simp only [Act.put, List.setIfInBounds_toArray, List.set_cons_zero, List.set_cons_succ]
            refine AnyS.two (i := 5) (j := 7) (by kernel_rfl) (AnyS.comes rfl (fun K hK => ?_)) (AnyS.comes rfl (fun K hK => ?_))
            · go_simp
              refine (AD.out _).mono ?_
              rintro e wb3 ⟨rfl, hbb3⟩
              have hsb3 : _ ≤ wb3.heap.size := hbb3.size
              try simp at hsb3
              have o_m0_b3 : Own wb3 g 0 (.int .i64 m.1) := own_kept hbb3 o_m0_b2
              have o_m1_b3 : Own wb3 g 1 (.int .i64 m.2) := own_kept hbb3 o_m1_b2
              have o_r0_b3 : Own wb3 w.heap.size 0 (.int .i64 0) := own_kept hbb3 o_r0_b2
              have o_r1_b3 : Own wb3 w.heap.size 1 (.int .i64 0) := own_kept hbb3 o_r1_b2
              have bwb3 : Below w.heap.size w wb3 := bwb2.trans (hbb3.mono bwb2.size)
              clear hbb3
              go_wp2_with fail
              refine hK.out _ _ (StayS.mk ⟨o_m0_b3.1, o_m1_b3.1⟩) ?_
              clear hK K
              try simp only [Act.put, List.setIfInBounds_toArray, List.set_cons_zero, List.set_cons_succ]
              refine AnyS.two (i := 6) (j := 7) (by kernel_rfl) (AnyS.comes rfl (fun K hK => ?_)) (AnyS.comes rfl (fun K hK => ?_))
              · go_simp
                refine (DV.out _).mono ?_
                rintro e wb4 ⟨rfl, hbb4⟩
                have hsb4 : _ ≤ wb4.heap.size := hbb4.size
                try simp at hsb4
                have o_m0_b4 : Own wb4 g 0 (.int .i64 m.1) := own_kept hbb4 o_m0_b3
                have o_m1_b4 : Own wb4 g 1 (.int .i64 m.2) := own_kept hbb4 o_m1_b3
                have o_r0_b4 : Own wb4 w.heap.size 0 (.int .i64 0) := own_kept hbb4 o_r0_b3
                have o_r1_b4 : Own wb4 w.heap.size 1 (.int .i64 0) := own_kept hbb4 o_r1_b3
                have bwb4 : Below w.heap.size w wb4 := bwb3.trans (hbb4.mono bwb3.size)
                clear hbb4
                go_wp2_with fail
                refine hK.out _ _ (StayS.mk ⟨o_m0_b4.1, o_m1_b4.1⟩) ?_
                clear hK K
                try simp only [Act.put, List.setIfInBounds_toArray, List.set_cons_zero, List.set_cons_succ]
                refine AnyS.one (i := 7) (by kernel_rfl) (AnyS.comes rfl (fun K hK => ?_))
                go_simp
                obtain ⟨h, hh⟩ : ∃ h, h = wb4.heap.size := ⟨_, rfl⟩
                obtain ⟨wal, ha⟩ : ∃ x, x = wb4.alloc (.cells #[.int .i64 0, .int .i64 0] 26) := ⟨_, rfl⟩
                skip
                rw [← ha]
                have o_H0_al : Own wal h 0 (.int .i64 0) := by rw [ha, hh]; exact ⟨by simp [go_sem], by simp [go_sem]⟩
                have o_H1_al : Own wal h 1 (.int .i64 0) := by rw [ha, hh]; exact ⟨by simp [go_sem], by simp [go_sem]⟩
                have o_m0_al : Own wal g 0 (.int .i64 m.1) := by rw [ha]; exact own_alloc o_m0_b4
                have o_m1_al : Own wal g 1 (.int .i64 m.2) := by rw [ha]; exact own_alloc o_m1_b4
                have o_r0_al : Own wal w.heap.size 0 (.int .i64 0) := by rw [ha]; exact own_alloc o_r0_b4
                have o_r1_al : Own wal w.heap.size 1 (.int .i64 0) := by rw [ha]; exact own_alloc o_r1_b4
                have lh_m : g < h := by rw [hh]; exact World.block_lt_of_cell? _ _ o_m0_b4.1
                have lh_r : w.heap.size < h := by rw [hh]; exact World.block_lt_of_cell? _ _ o_r0_b4.1
                have bwal : Below w.heap.size w wal := by rw [ha]; exact bwb4.alloc bwb4.size _
                try rw [← hh]
                clear ha hh
                refine hK.out _ _ (StayS.mk ⟨o_m0_al.1, o_m1_al.1⟩) ?_
                clear hK K
                try simp only [Act.put, List.setIfInBounds_toArray, List.set_cons_zero, List.set_cons_succ]
                have cH0 := o_H0_al.1
                have cH1 := o_H1_al.1
                have fH0 := o_H0_al.2
                have fH1 := o_H1_al.2
                refine AnyS.one (i := 8) (by kernel_rfl) (AnyS.comes rfl (fun K hK => ?_))
                go_simp
                refine hK.out _ _ (StayS.mk ⟨cell_far (by dsimp only; omega) (cell_far (by dsimp only; omega) o_m0_al.1), cell_far (by dsimp only; omega) (cell_far (by dsimp only; omega) o_m1_al.1)⟩) ?_
                clear hK K
                try simp only [Act.put, List.setIfInBounds_toArray, List.set_cons_zero, List.set_cons_succ]
                refine AnyS.done (by kernel_rfl) ?_ _
                go_wp2_with fail
                go_meet
                exact ⟨h, rfl, own_next (by decide) (own_put o_H0_al), own_put (own_next (by decide) o_H1_al), by omega, own_far (by dsimp only; omega) (own_far (by dsimp only; omega) o_r0_al), own_far (by dsimp only; omega) (own_far (by dsimp only; omega) o_r1_al), belB⟩
              · go_simp
                obtain ⟨h, hh⟩ : ∃ h, h = wb3.heap.size := ⟨_, rfl⟩
                obtain ⟨wal, ha⟩ : ∃ x, x = wb3.alloc (.cells #[.int .i64 0, .int .i64 0] 26) := ⟨_, rfl⟩
                skip
                rw [← ha]
                have o_H0_al : Own wal h 0 (.int .i64 0) := by rw [ha, hh]; exact ⟨by simp [go_sem], by simp [go_sem]⟩
                have o_H1_al : Own wal h 1 (.int .i64 0) := by rw [ha, hh]; exact ⟨by simp [go_sem], by simp [go_sem]⟩
                have o_m0_al : Own wal g 0 (.int .i64 m.1) := by rw [ha]; exact own_alloc o_m0_b3
                have o_m1_al : Own wal g 1 (.int .i64 m.2) := by rw [ha]; exact own_alloc o_m1_b3
                have o_r0_al : Own wal w.heap.size 0 (.int .i64 0) := by rw [ha]; exact own_alloc o_r0_b3
                have o_r1_al : Own wal w.heap.size 1 (.int .i64 0) := by rw [ha]; exact own_alloc o_r1_b3
                have lh_m : g < h := by rw [hh]; exact World.block_lt_of_cell? _ _ o_m0_b3.1
                have lh_r : w.heap.size < h := by rw [hh]; exact World.block_lt_of_cell? _ _ o_r0_b3.1
                have bwal : Below w.heap.size w wal := by rw [ha]; exact bwb3.alloc bwb3.size _
                try rw [← hh]
                clear ha hh
                refine hK.out _ _ (StayS.mk ⟨o_m0_al.1, o_m1_al.1⟩) ?_
                clear hK K
                try simp only [Act.put, List.setIfInBounds_toArray, List.set_cons_zero, List.set_cons_succ]
                refine AnyS.one (i := 6) (by kernel_rfl) (AnyS.comes rfl (fun K hK => ?_))
                go_simp
                refine (DV.out _).mono ?_
                rintro e wc4 ⟨rfl, hbc4⟩
                have hsc4 : _ ≤ wc4.heap.size := hbc4.size
                try simp at hsc4
                have o_m0_c4 : Own wc4 g 0 (.int .i64 m.1) := own_kept hbc4 o_m0_al
                have o_m1_c4 : Own wc4 g 1 (.int .i64 m.2) := own_kept hbc4 o_m1_al
                have o_r0_c4 : Own wc4 w.heap.size 0 (.int .i64 0) := own_kept hbc4 o_r0_al
                have o_r1_c4 : Own wc4 w.heap.size 1 (.int .i64 0) := own_kept hbc4 o_r1_al
                have o_H0_c4 : Own wc4 h 0 (.int .i64 0) := own_kept hbc4 o_H0_al
                have o_H1_c4 : Own wc4 h 1 (.int .i64 0) := own_kept hbc4 o_H1_al
                have bwc4 : Below w.heap.size w wc4 := bwal.trans (hbc4.mono bwal.size)
                clear hbc4
                go_wp2_with fail
                refine hK.out _ _ (StayS.mk ⟨o_m0_c4.1, o_m1_c4.1⟩) ?_
                clear hK K
                try simp only [Act.put, List.setIfInBounds_toArray, List.set_cons_zero, List.set_cons_succ]
                have cH0 := o_H0_c4.1
                have cH1 := o_H1_c4.1
                have fH0 := o_H0_c4.2
                have fH1 := o_H1_c4.2
                refine AnyS.one (i := 8) (by kernel_rfl) (AnyS.comes rfl (fun K hK => ?_))
                go_simp
                refine hK.out _ _ (StayS.mk ⟨cell_far (by dsimp only; omega) (cell_far (by dsimp only; omega) o_m0_c4.1), cell_far (by dsimp only; omega) (cell_far (by dsimp only; omega) o_m1_c4.1)⟩) ?_
                clear hK K
                try simp only [Act.put, List.setIfInBounds_toArray, List.set_cons_zero, List.set_cons_succ]
                refine AnyS.done (by kernel_rfl) ?_ _
                go_wp2_with fail
                go_meet
                exact ⟨h, rfl, own_next (by decide) (own_put o_H0_c4), own_put (own_next (by decide) o_H1_c4), by omega, own_far (by dsimp only; omega) (own_far (by dsimp only; omega) o_r0_c4), own_far (by dsimp only; omega) (own_far (by dsimp only; omega) o_r1_c4), belB⟩
            · go_simp
              obtain ⟨h, hh⟩ : ∃ h, h = wb2.heap.size := ⟨_, rfl⟩
              obtain ⟨wal, ha⟩ : ∃ x, x = wb2.alloc (.cells #[.int .i64 0, .int .i64 0] 26) := ⟨_, rfl⟩
              skip
              rw [← ha]
              have o_H0_al : Own wal h 0 (.int .i64 0) := by rw [ha, hh]; exact ⟨by simp [go_sem], by simp [go_sem]⟩
              have o_H1_al : Own wal h 1 (.int .i64 0) := by rw [ha, hh]; exact ⟨by simp [go_sem], by simp [go_sem]⟩
              have o_m0_al : Own wal g 0 (.int .i64 m.1) := by rw [ha]; exact own_alloc o_m0_b2
              have o_m1_al : Own wal g 1 (.int .i64 m.2) := by rw [ha]; exact own_alloc o_m1_b2
              have o_r0_al : Own wal w.heap.size 0 (.int .i64 0) := by rw [ha]; exact own_alloc o_r0_b2
              have o_r1_al : Own wal w.heap.size 1 (.int .i64 0) := by rw [ha]; exact own_alloc o_r1_b2
              have lh_m : g < h := by rw [hh]; exact World.block_lt_of_cell? _ _ o_m0_b2.1
              have lh_r : w.heap.size < h := by rw [hh]; exact World.block_lt_of_cell? _ _ o_r0_b2.1
              have bwal : Below w.heap.size w wal := by rw [ha]; exact bwb2.alloc bwb2.size _
              try rw [← hh]
              clear ha hh
              refine hK.out _ _ (StayS.mk ⟨o_m0_al.1, o_m1_al.1⟩) ?_
              clear hK K
              try simp only [Act.put, List.setIfInBounds_toArray, List.set_cons_zero, List.set_cons_succ]
              refine AnyS.one (i := 5) (by kernel_rfl) (AnyS.comes rfl (fun K hK => ?_))
              go_simp
              refine (AD.out _).mono ?_
              rintro e wc3 ⟨rfl, hbc3⟩
              have hsc3 : _ ≤ wc3.heap.size := hbc3.size
              try simp at hsc3
              have o_m0_c3 : Own wc3 g 0 (.int .i64 m.1) := own_kept hbc3 o_m0_al
              have o_m1_c3 : Own wc3 g 1 (.int .i64 m.2) := own_kept hbc3 o_m1_al
              have o_r0_c3 : Own wc3 w.heap.size 0 (.int .i64 0) := own_kept hbc3 o_r0_al
              have o_r1_c3 : Own wc3 w.heap.size 1 (.int .i64 0) := own_kept hbc3 o_r1_al
              have o_H0_c3 : Own wc3 h 0 (.int .i64 0) := own_kept hbc3 o_H0_al
              have o_H1_c3 : Own wc3 h 1 (.int .i64 0) := own_kept hbc3 o_H1_al
              have bwc3 : Below w.heap.size w wc3 := bwal.trans (hbc3.mono bwal.size)
              clear hbc3
              go_wp2_with fail
              refine hK.out _ _ (StayS.mk ⟨o_m0_c3.1, o_m1_c3.1⟩) ?_
              clear hK K
              try simp only [Act.put, List.setIfInBounds_toArray, List.set_cons_zero, List.set_cons_succ]
              refine AnyS.one (i := 6) (by kernel_rfl) (AnyS.comes rfl (fun K hK => ?_))
              go_simp
              refine (DV.out _).mono ?_
              rintro e wc4 ⟨rfl, hbc4⟩
              have hsc4 : _ ≤ wc4.heap.size := hbc4.size
              try simp at hsc4
              have o_m0_c4 : Own wc4 g 0 (.int .i64 m.1) := own_kept hbc4 o_m0_c3
              have o_m1_c4 : Own wc4 g 1 (.int .i64 m.2) := own_kept hbc4 o_m1_c3
              have o_r0_c4 : Own wc4 w.heap.size 0 (.int .i64 0) := own_kept hbc4 o_r0_c3
              have o_r1_c4 : Own wc4 w.heap.size 1 (.int .i64 0) := own_kept hbc4 o_r1_c3
              have o_H0_c4 : Own wc4 h 0 (.int .i64 0) := own_kept hbc4 o_H0_c3
              have o_H1_c4 : Own wc4 h 1 (.int .i64 0) := own_kept hbc4 o_H1_c3
              have bwc4 : Below w.heap.size w wc4 := bwc3.trans (hbc4.mono bwc3.size)
              clear hbc4
              go_wp2_with fail
              refine hK.out _ _ (StayS.mk ⟨o_m0_c4.1, o_m1_c4.1⟩) ?_
              clear hK K
              try simp only [Act.put, List.setIfInBounds_toArray, List.set_cons_zero, List.set_cons_succ]
              have cH0 := o_H0_c4.1
              have cH1 := o_H1_c4.1
              have fH0 := o_H0_c4.2
              have fH1 := o_H1_c4.2
              refine AnyS.one (i := 8) (by kernel_rfl) (AnyS.comes rfl (fun K hK => ?_))
              go_simp
              refine hK.out _ _ (StayS.mk ⟨cell_far (by dsimp only; omega) (cell_far (by dsimp only; omega) o_m0_c4.1), cell_far (by dsimp only; omega) (cell_far (by dsimp only; omega) o_m1_c4.1)⟩) ?_
              clear hK K
              try simp only [Act.put, List.setIfInBounds_toArray, List.set_cons_zero, List.set_cons_succ]
              refine AnyS.done (by kernel_rfl) ?_ _
              go_wp2_with fail
              go_meet
              exact ⟨h, rfl, own_next (by decide) (own_put o_H0_c4), own_put (own_next (by decide) o_H1_c4), by omega, own_far (by dsimp only; omega) (own_far (by dsimp only; omega) o_r0_c4), own_far (by dsimp only; omega) (own_far (by dsimp only; omega) o_r1_c4), belB⟩
          · go_simp
            obtain ⟨h, hh⟩ : ∃ h, h = wb1.heap.size := ⟨_, rfl⟩
            obtain ⟨wal, ha⟩ : ∃ x, x = wb1.alloc (.cells #[.int .i64 0, .int .i64 0] 26) := ⟨_, rfl⟩
            skip
            rw [← ha]
            have o_H0_al : Own wal h 0 (.int .i64 0) := by rw [ha, hh]; exact ⟨by simp [go_sem], by simp [go_sem]⟩
            have o_H1_al : Own wal h 1 (.int .i64 0) := by rw [ha, hh]; exact ⟨by simp [go_sem], by simp [go_sem]⟩
            have o_m0_al : Own wal g 0 (.int .i64 m.1) := by rw [ha]; exact own_alloc o_m0_b1
            have o_m1_al : Own wal g 1 (.int .i64 m.2) := by rw [ha]; exact own_alloc o_m1_b1
            have o_r0_al : Own wal w.heap.size 0 (.int .i64 0) := by rw [ha]; exact own_alloc o_r0_b1
            have o_r1_al : Own wal w.heap.size 1 (.int .i64 0) := by rw [ha]; exact own_alloc o_r1_b1
            have lh_m : g < h := by rw [hh]; exact World.block_lt_of_cell? _ _ o_m0_b1.1
            have lh_r : w.heap.size < h := by rw [hh]; exact World.block_lt_of_cell? _ _ o_r0_b1.1
            have bwal : Below w.heap.size w wal := by rw [ha]; exact bwb1.alloc bwb1.size _
            try rw [← hh]
            clear ha hh
            refine hK.out _ _ (StayS.mk ⟨o_m0_al.1, o_m1_al.1⟩) ?_
            clear hK K
            try simp only [Act.put, List.setIfInBounds_toArray, List.set_cons_zero, List.set_cons_succ]
            refine AnyS.one (i := 4) (by kernel_rfl) (AnyS.comes rfl (fun K hK => ?_))
            go_simp
            refine (I1.out _).mono ?_
            rintro e wc2 ⟨rfl, hbc2⟩
            have hsc2 : _ ≤ wc2.heap.size := hbc2.size
            try simp at hsc2
            have o_m0_c2 : Own wc2 g 0 (.int .i64 m.1) := own_kept hbc2 o_m0_al
            have o_m1_c2 : Own wc2 g 1 (.int .i64 m.2) := own_kept hbc2 o_m1_al
            have o_r0_c2 : Own wc2 w.heap.size 0 (.int .i64 0) := own_kept hbc2 o_r0_al
            have o_r1_c2 : Own wc2 w.heap.size 1 (.int .i64 0) := own_kept hbc2 o_r1_al
            have o_H0_c2 : Own wc2 h 0 (.int .i64 0) := own_kept hbc2 o_H0_al
            have o_H1_c2 : Own wc2 h 1 (.int .i64 0) := own_kept hbc2 o_H1_al
            have bwc2 : Below w.heap.size w wc2 := bwal.trans (hbc2.mono bwal.size)
            clear hbc2
            go_wp2_with fail
            refine hK.out _ _ (StayS.mk ⟨o_m0_c2.1, o_m1_c2.1⟩) ?_
            clear hK K
            try simp only [Act.put, List.setIfInBounds_toArray, List.set_cons_zero, List.set_cons_succ]
            refine AnyS.one (i := 5) (by kernel_rfl) (AnyS.comes rfl (fun K hK => ?_))
            go_simp
            refine (AD.out _).mono ?_
            rintro e wc3 ⟨rfl, hbc3⟩
            have hsc3 : _ ≤ wc3.heap.size := hbc3.size
            try simp at hsc3
            have o_m0_c3 : Own wc3 g 0 (.int .i64 m.1) := own_kept hbc3 o_m0_c2
            have o_m1_c3 : Own wc3 g 1 (.int .i64 m.2) := own_kept hbc3 o_m1_c2
            have o_r0_c3 : Own wc3 w.heap.size 0 (.int .i64 0) := own_kept hbc3 o_r0_c2
            have o_r1_c3 : Own wc3 w.heap.size 1 (.int .i64 0) := own_kept hbc3 o_r1_c2
            have o_H0_c3 : Own wc3 h 0 (.int .i64 0) := own_kept hbc3 o_H0_c2
            have o_H1_c3 : Own wc3 h 1 (.int .i64 0) := own_kept hbc3 o_H1_c2
            have bwc3 : Below w.heap.size w wc3 := bwc2.trans (hbc3.mono bwc2.size)
            clear hbc3
            go_wp2_with fail
            refine hK.out _ _ (StayS.mk ⟨o_m0_c3.1, o_m1_c3.1⟩) ?_
            clear hK K
            try simp only [Act.put, List.setIfInBounds_toArray, List.set_cons_zero, List.set_cons_succ]
            refine AnyS.one (i := 6) (by kernel_rfl) (AnyS.comes rfl (fun K hK => ?_))
            go_simp
            refine (DV.out _).mono ?_
            rintro e wc4 ⟨rfl, hbc4⟩
            have hsc4 : _ ≤ wc4.heap.size := hbc4.size
            try simp at hsc4
            have o_m0_c4 : Own wc4 g 0 (.int .i64 m.1) := own_kept hbc4 o_m0_c3
            have o_m1_c4 : Own wc4 g 1 (.int .i64 m.2) := own_kept hbc4 o_m1_c3
            have o_r0_c4 : Own wc4 w.heap.size 0 (.int .i64 0) := own_kept hbc4 o_r0_c3
            have o_r1_c4 : Own wc4 w.heap.size 1 (.int .i64 0) := own_kept hbc4 o_r1_c3
            have o_H0_c4 : Own wc4 h 0 (.int .i64 0) := own_kept hbc4 o_H0_c3
            have o_H1_c4 : Own wc4 h 1 (.int .i64 0) := own_kept hbc4 o_H1_c3
            have bwc4 : Below w.heap.size w wc4 := bwc3.trans (hbc4.mono bwc3.size)
            clear hbc4
            go_wp2_with fail
            refine hK.out _ _ (StayS.mk ⟨o_m0_c4.1, o_m1_c4.1⟩) ?_
            clear hK K
            try simp only [Act.put, List.setIfInBounds_toArray, List.set_cons_zero, List.set_cons_succ]
            have cH0 := o_H0_c4.1
            have cH1 := o_H1_c4.1
            have fH0 := o_H0_c4.2
            have fH1 := o_H1_c4.2
            refine AnyS.one (i := 8) (by kernel_rfl) (AnyS.comes rfl (fun K hK => ?_))
            go_simp
            refine hK.out _ _ (StayS.mk ⟨cell_far (by dsimp only; omega) (cell_far (by dsimp only; omega) o_m0_c4.1), cell_far (by dsimp only; omega) (cell_far (by dsimp only; omega) o_m1_c4.1)⟩) ?_
            clear hK K
            try simp only [Act.put, List.setIfInBounds_toArray, List.set_cons_zero, List.set_cons_succ]
            refine AnyS.done (by kernel_rfl) ?_ _
            go_wp2_with fail
            go_meet
            exact ⟨h, rfl, own_next (by decide) (own_put o_H0_c4), own_put (own_next (by decide) o_H1_c4), by omega, own_far (by dsimp only; omega) (own_far (by dsimp only; omega) o_r0_c4), own_far (by dsimp only; omega) (own_far (by dsimp only; omega) o_r1_c4), belB⟩
        · go_simp
          obtain ⟨h, hh⟩ : ∃ h, h = wb0.heap.size := ⟨_, rfl⟩
          obtain ⟨wal, ha⟩ : ∃ x, x = wb0.alloc (.cells #[.int .i64 0, .int .i64 0] 26) := ⟨_, rfl⟩
          skip
          rw [← ha]
          have o_H0_al : Own wal h 0 (.int .i64 0) := by rw [ha, hh]; exact ⟨by simp [go_sem], by simp [go_sem]⟩
          have o_H1_al : Own wal h 1 (.int .i64 0) := by rw [ha, hh]; exact ⟨by simp [go_sem], by simp [go_sem]⟩
          have o_m0_al : Own wal g 0 (.int .i64 m.1) := by rw [ha]; exact own_alloc o_m0_b0
          have o_m1_al : Own wal g 1 (.int .i64 m.2) := by rw [ha]; exact own_alloc o_m1_b0
          have o_r0_al : Own wal w.heap.size 0 (.int .i64 0) := by rw [ha]; exact own_alloc o_r0_b0
          have o_r1_al : Own wal w.heap.size 1 (.int .i64 0) := by rw [ha]; exact own_alloc o_r1_b0
          have lh_m : g < h := by rw [hh]; exact World.block_lt_of_cell? _ _ o_m0_b0.1
          have lh_r : w.heap.size < h := by rw [hh]; exact World.block_lt_of_cell? _ _ o_r0_b0.1
          have bwal : Below w.heap.size w wal := by rw [ha]; exact bwb0.alloc bwb0.size _
          try rw [← hh]
          clear ha hh
          refine hK.out _ _ (StayS.mk ⟨o_m0_al.1, o_m1_al.1⟩) ?_
          clear hK K
          try simp only [Act.put, List.setIfInBounds_toArray, List.set_cons_zero, List.set_cons_succ]
          refine AnyS.one (i := 2) (by kernel_rfl) (AnyS.comes rfl (fun K hK => ?_))
          go_simp
          refine (SB.out _).mono ?_
          rintro e wc1 ⟨rfl, hbc1⟩
          have hsc1 : _ ≤ wc1.heap.size := hbc1.size
          try simp at hsc1
          have o_m0_c1 : Own wc1 g 0 (.int .i64 m.1) := own_kept hbc1 o_m0_al
          have o_m1_c1 : Own wc1 g 1 (.int .i64 m.2) := own_kept hbc1 o_m1_al
          have o_r0_c1 : Own wc1 w.heap.size 0 (.int .i64 0) := own_kept hbc1 o_r0_al
          have o_r1_c1 : Own wc1 w.heap.size 1 (.int .i64 0) := own_kept hbc1 o_r1_al
          have o_H0_c1 : Own wc1 h 0 (.int .i64 0) := own_kept hbc1 o_H0_al
          have o_H1_c1 : Own wc1 h 1 (.int .i64 0) := own_kept hbc1 o_H1_al
          have bwc1 : Below w.heap.size w wc1 := bwal.trans (hbc1.mono bwal.size)
          clear hbc1
          go_wp2_with fail
          refine hK.out _ _ (StayS.mk ⟨o_m0_c1.1, o_m1_c1.1⟩) ?_
          clear hK K
          try simp only [Act.put, List.setIfInBounds_toArray, List.set_cons_zero, List.set_cons_succ]
          refine AnyS.one (i := 4) (by kernel_rfl) (AnyS.comes rfl (fun K hK => ?_))
          go_simp
          refine (I1.out _).mono ?_
          rintro e wc2 ⟨rfl, hbc2⟩
          have hsc2 : _ ≤ wc2.heap.size := hbc2.size
          try simp at hsc2
          have o_m0_c2 : Own wc2 g 0 (.int .i64 m.1) := own_kept hbc2 o_m0_c1
          have o_m1_c2 : Own wc2 g 1 (.int .i64 m.2) := own_kept hbc2 o_m1_c1
          have o_r0_c2 : Own wc2 w.heap.size 0 (.int .i64 0) := own_kept hbc2 o_r0_c1
          have o_r1_c2 : Own wc2 w.heap.size 1 (.int .i64 0) := own_kept hbc2 o_r1_c1
          have o_H0_c2 : Own wc2 h 0 (.int .i64 0) := own_kept hbc2 o_H0_c1
          have o_H1_c2 : Own wc2 h 1 (.int .i64 0) := own_kept hbc2 o_H1_c1
          have bwc2 : Below w.heap.size w wc2 := bwc1.trans (hbc2.mono bwc1.size)
          clear hbc2
          go_wp2_with fail
          refine hK.out _ _ (StayS.mk ⟨o_m0_c2.1, o_m1_c2.1⟩) ?_
          clear hK K
          try simp only [Act.put, List.setIfInBounds_toArray, List.set_cons_zero, List.set_cons_succ]
          refine AnyS.one (i := 5) (by kernel_rfl) (AnyS.comes rfl (fun K hK => ?_))
          go_simp
          refine (AD.out _).mono ?_
          rintro e wc3 ⟨rfl, hbc3⟩
          have hsc3 : _ ≤ wc3.heap.size := hbc3.size
          try simp at hsc3
          have o_m0_c3 : Own wc3 g 0 (.int .i64 m.1) := own_kept hbc3 o_m0_c2
          have o_m1_c3 : Own wc3 g 1 (.int .i64 m.2) := own_kept hbc3 o_m1_c2
          have o_r0_c3 : Own wc3 w.heap.size 0 (.int .i64 0) := own_kept hbc3 o_r0_c2
          have o_r1_c3 : Own wc3 w.heap.size 1 (.int .i64 0) := own_kept hbc3 o_r1_c2
          have o_H0_c3 : Own wc3 h 0 (.int .i64 0) := own_kept hbc3 o_H0_c2
          have o_H1_c3 : Own wc3 h 1 (.int .i64 0) := own_kept hbc3 o_H1_c2
          have bwc3 : Below w.heap.size w wc3 := bwc2.trans (hbc3.mono bwc2.size)
          clear hbc3
          go_wp2_with fail
          refine hK.out _ _ (StayS.mk ⟨o_m0_c3.1, o_m1_c3.1⟩) ?_
          clear hK K
          try simp only [Act.put, List.setIfInBounds_toArray, List.set_cons_zero, List.set_cons_succ]
          refine AnyS.one (i := 6) (by kernel_rfl) (AnyS.comes rfl (fun K hK => ?_))
          go_simp
          refine (DV.out _).mono ?_
          rintro e wc4 ⟨rfl, hbc4⟩
          have hsc4 : _ ≤ wc4.heap.size := hbc4.size
          try simp at hsc4
          have o_m0_c4 : Own wc4 g 0 (.int .i64 m.1) := own_kept hbc4 o_m0_c3
          have o_m1_c4 : Own wc4 g 1 (.int .i64 m.2) := own_kept hbc4 o_m1_c3
          have o_r0_c4 : Own wc4 w.heap.size 0 (.int .i64 0) := own_kept hbc4 o_r0_c3
          have o_r1_c4 : Own wc4 w.heap.size 1 (.int .i64 0) := own_kept hbc4 o_r1_c3
          have o_H0_c4 : Own wc4 h 0 (.int .i64 0) := own_kept hbc4 o_H0_c3
          have o_H1_c4 : Own wc4 h 1 (.int .i64 0) := own_kept hbc4 o_H1_c3
          have bwc4 : Below w.heap.size w wc4 := bwc3.trans (hbc4.mono bwc3.size)
          clear hbc4
          go_wp2_with fail
          refine hK.out _ _ (StayS.mk ⟨o_m0_c4.1, o_m1_c4.1⟩) ?_
          clear hK K
          try simp only [Act.put, List.setIfInBounds_toArray, List.set_cons_zero, List.set_cons_succ]
          have cH0 := o_H0_c4.1
          have cH1 := o_H1_c4.1
          have fH0 := o_H0_c4.2
          have fH1 := o_H1_c4.2
          refine AnyS.one (i := 8) (by kernel_rfl) (AnyS.comes rfl (fun K hK => ?_))
          go_simp
          refine hK.out _ _ (StayS.mk ⟨cell_far (by dsimp only; omega) (cell_far (by dsimp only; omega) o_m0_c4.1), cell_far (by dsimp only; omega) (cell_far (by dsimp only; omega) o_m1_c4.1)⟩) ?_
          clear hK K
          try simp only [Act.put, List.setIfInBounds_toArray, List.set_cons_zero, List.set_cons_succ]
          refine AnyS.done (by kernel_rfl) ?_ _
          go_wp2_with fail
          go_meet
          exact ⟨h, rfl, own_next (by decide) (own_put o_H0_c4), own_put (own_next (by decide) o_H1_c4), by omega, own_far (by dsimp only; omega) (own_far (by dsimp only; omega) o_r0_c4), own_far (by dsimp only; omega) (own_far (by dsimp only; omega) o_r1_c4), belB⟩
      · go_simp
        obtain ⟨h, hh⟩ : ∃ h, h = wd.heap.size := ⟨_, rfl⟩
        obtain ⟨wal, ha⟩ : ∃ x, x = wd.alloc (.cells #[.int .i64 0, .int .i64 0] 26) := ⟨_, rfl⟩
        skip
        rw [← ha]
        have o_H0_al : Own wal h 0 (.int .i64 0) := by rw [ha, hh]; exact ⟨by simp [go_sem], by simp [go_sem]⟩
        have o_H1_al : Own wal h 1 (.int .i64 0) := by rw [ha, hh]; exact ⟨by simp [go_sem], by simp [go_sem]⟩
        have o_m0_al : Own wal g 0 (.int .i64 m.1) := by rw [ha]; exact own_alloc o_m0_d
        have o_m1_al : Own wal g 1 (.int .i64 m.2) := by rw [ha]; exact own_alloc o_m1_d
        have o_r0_al : Own wal w.heap.size 0 (.int .i64 0) := by rw [ha]; exact own_alloc o_r0_d
        have o_r1_al : Own wal w.heap.size 1 (.int .i64 0) := by rw [ha]; exact own_alloc o_r1_d
        have lh_m : g < h := by rw [hh]; exact World.block_lt_of_cell? _ _ o_m0_d.1
        have lh_r : w.heap.size < h := by rw [hh]; exact World.block_lt_of_cell? _ _ o_r0_d.1
        have bwal : Below w.heap.size w wal := by rw [ha]; exact bwd.alloc bwd.size _
        try rw [← hh]
        clear ha hh
        refine hK.out _ _ (StayS.mk ⟨o_m0_al.1, o_m1_al.1⟩) ?_
        clear hK K
        try simp only [Act.put, List.setIfInBounds_toArray, List.set_cons_zero, List.set_cons_succ]
        refine AnyS.one (i := 1) (by kernel_rfl) (AnyS.comes rfl (fun K hK => ?_))
        go_simp
        refine (I1.out _).mono ?_
        rintro e wc0 ⟨rfl, hbc0⟩
        have hsc0 : _ ≤ wc0.heap.size := hbc0.size
        try simp at hsc0
        have o_m0_c0 : Own wc0 g 0 (.int .i64 m.1) := own_kept hbc0 o_m0_al
        have o_m1_c0 : Own wc0 g 1 (.int .i64 m.2) := own_kept hbc0 o_m1_al
        have o_r0_c0 : Own wc0 w.heap.size 0 (.int .i64 0) := own_kept hbc0 o_r0_al
        have o_r1_c0 : Own wc0 w.heap.size 1 (.int .i64 0) := own_kept hbc0 o_r1_al
        have o_H0_c0 : Own wc0 h 0 (.int .i64 0) := own_kept hbc0 o_H0_al
        have o_H1_c0 : Own wc0 h 1 (.int .i64 0) := own_kept hbc0 o_H1_al
        have bwc0 : Below w.heap.size w wc0 := bwal.trans (hbc0.mono bwal.size)
        clear hbc0
        go_wp2_with fail
        refine hK.out _ _ (StayS.mk ⟨o_m0_c0.1, o_m1_c0.1⟩) ?_
        clear hK K
        try simp only [Act.put, List.setIfInBounds_toArray, List.set_cons_zero, List.set_cons_succ]
        refine AnyS.one (i := 2) (by kernel_rfl) (AnyS.comes rfl (fun K hK => ?_))
        go_simp
        refine (SB.out _).mono ?_
        rintro e wc1 ⟨rfl, hbc1⟩
        have hsc1 : _ ≤ wc1.heap.size := hbc1.size
        try simp at hsc1
        have o_m0_c1 : Own wc1 g 0 (.int .i64 m.1) := own_kept hbc1 o_m0_c0
        have o_m1_c1 : Own wc1 g 1 (.int .i64 m.2) := own_kept hbc1 o_m1_c0
        have o_r0_c1 : Own wc1 w.heap.size 0 (.int .i64 0) := own_kept hbc1 o_r0_c0
        have o_r1_c1 : Own wc1 w.heap.size 1 (.int .i64 0) := own_kept hbc1 o_r1_c0
        have o_H0_c1 : Own wc1 h 0 (.int .i64 0) := own_kept hbc1 o_H0_c0
        have o_H1_c1 : Own wc1 h 1 (.int .i64 0) := own_kept hbc1 o_H1_c0
        have bwc1 : Below w.heap.size w wc1 := bwc0.trans (hbc1.mono bwc0.size)
        clear hbc1
        go_wp2_with fail
        refine hK.out _ _ (StayS.mk ⟨o_m0_c1.1, o_m1_c1.1⟩) ?_
        clear hK K
        try simp only [Act.put, List.setIfInBounds_toArray, List.set_cons_zero, List.set_cons_succ]
        refine AnyS.one (i := 4) (by kernel_rfl) (AnyS.comes rfl (fun K hK => ?_))
        go_simp
        refine (I1.out _).mono ?_
        rintro e wc2 ⟨rfl, hbc2⟩
        have hsc2 : _ ≤ wc2.heap.size := hbc2.size
        try simp at hsc2
        have o_m0_c2 : Own wc2 g 0 (.int .i64 m.1) := own_kept hbc2 o_m0_c1
        have o_m1_c2 : Own wc2 g 1 (.int .i64 m.2) := own_kept hbc2 o_m1_c1
        have o_r0_c2 : Own wc2 w.heap.size 0 (.int .i64 0) := own_kept hbc2 o_r0_c1
        have o_r1_c2 : Own wc2 w.heap.size 1 (.int .i64 0) := own_kept hbc2 o_r1_c1
        have o_H0_c2 : Own wc2 h 0 (.int .i64 0) := own_kept hbc2 o_H0_c1
        have o_H1_c2 : Own wc2 h 1 (.int .i64 0) := own_kept hbc2 o_H1_c1
        have bwc2 : Below w.heap.size w wc2 := bwc1.trans (hbc2.mono bwc1.size)
        clear hbc2
        go_wp2_with fail
        refine hK.out _ _ (StayS.mk ⟨o_m0_c2.1, o_m1_c2.1⟩) ?_
        clear hK K
        try simp only [Act.put, List.setIfInBounds_toArray, List.set_cons_zero, List.set_cons_succ]
        refine AnyS.one (i := 5) (by kernel_rfl) (AnyS.comes rfl (fun K hK => ?_))
        go_simp
        refine (AD.out _).mono ?_
        rintro e wc3 ⟨rfl, hbc3⟩
        have hsc3 : _ ≤ wc3.heap.size := hbc3.size
        try simp at hsc3
        have o_m0_c3 : Own wc3 g 0 (.int .i64 m.1) := own_kept hbc3 o_m0_c2
        have o_m1_c3 : Own wc3 g 1 (.int .i64 m.2) := own_kept hbc3 o_m1_c2
        have o_r0_c3 : Own wc3 w.heap.size 0 (.int .i64 0) := own_kept hbc3 o_r0_c2
        have o_r1_c3 : Own wc3 w.heap.size 1 (.int .i64 0) := own_kept hbc3 o_r1_c2
        have o_H0_c3 : Own wc3 h 0 (.int .i64 0) := own_kept hbc3 o_H0_c2
        have o_H1_c3 : Own wc3 h 1 (.int .i64 0) := own_kept hbc3 o_H1_c2
        have bwc3 : Below w.heap.size w wc3 := bwc2.trans (hbc3.mono bwc2.size)
        clear hbc3
        go_wp2_with fail
        refine hK.out _ _ (StayS.mk ⟨o_m0_c3.1, o_m1_c3.1⟩) ?_
        clear hK K
        try simp only [Act.put, List.setIfInBounds_toArray, List.set_cons_zero, List.set_cons_succ]
        refine AnyS.one (i := 6) (by kernel_rfl) (AnyS.comes rfl (fun K hK => ?_))
        go_simp
        refine (DV.out _).mono ?_
        rintro e wc4 ⟨rfl, hbc4⟩
        have hsc4 : _ ≤ wc4.heap.size := hbc4.size
        try simp at hsc4
        have o_m0_c4 : Own wc4 g 0 (.int .i64 m.1) := own_kept hbc4 o_m0_c3
        have o_m1_c4 : Own wc4 g 1 (.int .i64 m.2) := own_kept hbc4 o_m1_c3
        have o_r0_c4 : Own wc4 w.heap.size 0 (.int .i64 0) := own_kept hbc4 o_r0_c3
        have o_r1_c4 : Own wc4 w.heap.size 1 (.int .i64 0) := own_kept hbc4 o_r1_c3
        have o_H0_c4 : Own wc4 h 0 (.int .i64 0) := own_kept hbc4 o_H0_c3
        have o_H1_c4 : Own wc4 h 1 (.int .i64 0) := own_kept hbc4 o_H1_c3
        have bwc4 : Below w.heap.size w wc4 := bwc3.trans (hbc4.mono bwc3.size)
        clear hbc4
        go_wp2_with fail
        refine hK.out _ _ (StayS.mk ⟨o_m0_c4.1, o_m1_c4.1⟩) ?_
        clear hK K
        try simp only [Act.put, List.setIfInBounds_toArray, List.set_cons_zero, List.set_cons_succ]
        have cH0 := o_H0_c4.1
        have cH1 := o_H1_c4.1
        have fH0 := o_H0_c4.2
        have fH1 := o_H1_c4.2
        refine AnyS.one (i := 8) (by kernel_rfl) (AnyS.comes rfl (fun K hK => ?_))
        go_simp
        refine hK.out _ _ (StayS.mk ⟨cell_far (by dsimp only; omega) (cell_far (by dsimp only; omega) o_m0_c4.1), cell_far (by dsimp only; omega) (cell_far (by dsimp only; omega) o_m1_c4.1)⟩) ?_
        clear hK K
        try simp only [Act.put, List.setIfInBounds_toArray, List.set_cons_zero, List.set_cons_succ]
        refine AnyS.done (by kernel_rfl) ?_ _
        go_wp2_with fail
        go_meet
        exact ⟨h, rfl, own_next (by decide) (own_put o_H0_c4), own_put (own_next (by decide) o_H1_c4), by omega, own_far (by dsimp only; omega) (own_far (by dsimp only; omega) o_r0_c4), own_far (by dsimp only; omega) (own_far (by dsimp only; omega) o_r1_c4), belB⟩
    case rest =>
      obtain ⟨h, rfl, V0, V1, lh, S0, S1, hb⟩ := hcut
      have hsb := hb.size
      obtain ⟨g2, g3⟩ : GloT wc := hg.kept hb
      have l1 : 1 < wc.heap.size := World.block_lt_of_cell? _ _ g2
      obtain ⟨cv0, fv0⟩ := id V0
      obtain ⟨cv1, fv1⟩ := id V1
      have lh2 : h < wc.heap.size := World.block_lt_of_cell? _ _ cv0
      go_wp2_with fail
      have z0 := pslot_of (w := wc) (a := ⟨w.heap.size, 0, none⟩) (v := .int .i64 0) S0.1 S0.2
      have z1 := pslot_of (w := wc) (a := ⟨w.heap.size, 1, none⟩) (v := .int .i64 0) S1.1 S1.2
      obtain ⟨hlt2, hlt3, hlt4, hlt5, hlt6, hlt7, hlt8, hlt9, hlt10, hlt11⟩ := below_add; go_region_held3 (fun w' => w'.cell? ⟨h, 0, none⟩ = some (.int .i64 z.1) ∧ w'.cell? ⟨h, 1, none⟩ = some (.int .i64 z.2) ∧ w'.cell? ⟨1, 0, none⟩ = some (.int .i64 (-1)) ∧ w'.cell? ⟨1, 1, none⟩ = some (.int .i64 1) ∧ (w'.cell? ⟨w.heap.size, 0, none⟩ = some (peek w' ⟨w.heap.size, 0, none⟩) ∧ w'.frozen? ⟨w.heap.size, 0, none⟩ = false) ∧ (w'.cell? ⟨w.heap.size, 1, none⟩ = some (peek w' ⟨w.heap.size, 1, none⟩) ∧ w'.frozen? ⟨w.heap.size, 1, none⟩ = false)) (first | (with_reducible exact ((And.imp (cell_kept (by assumption)) (And.imp (cell_kept (by assumption)) (And.imp (cell_kept (by assumption)) (And.imp (cell_kept (by assumption)) (And.imp (pslot_kept (by assumption)) (pslot_kept (by assumption))))))) (by assumption))) | (with_reducible exact ((And.imp (cell_alloc) (And.imp (cell_alloc) (And.imp (cell_alloc) (And.imp (cell_alloc) (And.imp (pslot_alloc) (pslot_alloc)))))) (by assumption))) | (with_reducible exact ((And.imp (fun h => cell_far (by first | (simp; done) | (simp; omega) | (dsimp only; omega)) (cell_far (by first | (simp; done) | (simp; omega) | (dsimp only; omega)) h)) (And.imp (fun h => cell_far (by first | (simp; done) | (simp; omega) | (dsimp only; omega)) (cell_far (by first | (simp; done) | (simp; omega) | (dsimp only; omega)) h)) (And.imp (fun h => cell_far (by first | (simp; done) | (simp; omega) | (dsimp only; omega)) (cell_far (by first | (simp; done) | (simp; omega) | (dsimp only; omega)) h)) (And.imp (fun h => cell_far (by first | (simp; done) | (simp; omega) | (dsimp only; omega)) (cell_far (by first | (simp; done) | (simp; omega) | (dsimp only; omega)) h)) (And.imp (fun h => pslot_set (pslot_set h)) (fun h => pslot_set (pslot_set h))))))) (by assumption))) | (refine ⟨?_, ?_, ?_, ?_, ?_, ?_⟩ <;> repeat (first | (with_reducible assumption) | (with_reducible refine cell_far (by first | (simp; done) | (simp; omega) | (dsimp only; omega)) ?_) | (with_reducible refine cell_drew ?_) | (with_reducible refine cell_drewN ?_) | (with_reducible refine cell_kept (by assumption) ?_) | (with_reducible exact pslot_of (by assumption) (by assumption)) | (with_reducible refine pslot_drew ?_) | (with_reducible refine pslot_kept (by assumption) ?_) | (with_reducible refine pslot_alloc ?_) | (simp [go_sem]; done) | (with_reducible refine cell_alloc ?_))) | (simp [go_sem, *]; done)) (first | (go_at_call 156; refine (L2.out _).mono ?_; rintro e w1 ⟨rfl, hb⟩; have hs : _ ≤ w1.heap.size := hb.size; (try simp at hs); obtain ⟨hc, hf, hl, hn, hm⟩ := behind hb) | (go_at_call 199; refine (LS.out _ (GloT.mk (by simp [go_sem, *]) (by simp [go_sem, *]))).mono ?_; rintro e w1 ⟨rfl, hb⟩; have hs : _ ≤ w1.heap.size := hb.size; (try simp at hs); obtain ⟨hc, hf, hl, hn, hm⟩ := behind hb) | (go_at_call 73; refine (AF.out _).mono ?_; rintro e w1 ⟨rfl, hb⟩; have hs : _ ≤ w1.heap.size := hb.size; (try simp at hs); obtain ⟨hc, hf, hl, hn, hm⟩ := behind hb))
      all_goals (go_wp2; have o_j0 : Own (w1) (w.heap.size) 0 (.int .i64 0) := ownJ; obtain ⟨j0, f_j0⟩ := o_j0; have o_j1 : Own (w1) (w.heap.size) 1 (.int .i64 0) := ownJ; obtain ⟨j1, f_j1⟩ := o_j1; exact bodyPost_ret (v := .agg #[.int .i64 (y).1, .int .i64 (y).2]) (by simp [results, Tryz.results157, go_sem, j0, j1]) rfl ⟨by rw [E.out], belB⟩)
theorem LogAt_any (n : Int) (w : World) (hg : GloT w) : Calls Tryz.prog 157 #[.int .i64 n] w fun e w' =>
    e = .returned (.agg #[.int .i64 (logF n).1, .int .i64 (logF n).2]) ∧ Below w.heap.size w w' := by
  by_cases h : LogN n
  · exact LogAt_yes n h w hg
  · exact LogAt_no n h w
end Go.Proofs.YtmikjgbojknlnaaGreatDoor
