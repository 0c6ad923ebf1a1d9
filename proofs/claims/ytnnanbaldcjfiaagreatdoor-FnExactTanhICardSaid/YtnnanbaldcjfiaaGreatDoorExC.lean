/- Contracts of the series of exponentials in the program. Conditions: numbers are int64; the program's interval is laid. -/
import Derived.Test.YtnnanbaldcjfiaaGreatDoorExN
import Derived.Test.YtnnanbaldcjfiaaGreatDoorAtZ
import Derived.Test.YtnnanbaldcjfiaaGreatDoorIvD
import Derived.Test.YtnnanbaldcjfiaaGreatDoorIvE
import Derived.Test.YtnnanbaldcjfiaaGreatDoorIvF
import Derived.LoopN
import Derived.Handy
import Derived.Deep.DeepCutAuto
import Derived.Deep.RegionHeld3
import Derived.Outline
namespace Go.Proofs.YtnnanbaldcjfiaaGreatDoor
open Go.ChangeShapes Go.WideShapes Go.ChangeAt Go.RowKit
set_option linter.unusedVariables false
set_option maxRecDepth 100000
set_option linter.unusedSimpArgs false
set_option maxHeartbeats 1000000
theorem expLit (r p : Iv) (hr : Ok r) (hp : Ok p) (i : Int) (hi : In64 i) (b : Nat) (w : World) (c0 : w.cell? ⟨b, 0, none⟩ = some (.int .i64 r.1)) (c1 : w.cell? ⟨b, 1, none⟩ = some (.int .i64 r.2)) : Calls Tryz.prog 134 #[.agg #[.int .i64 p.1, .int .i64 p.2], .int .i64 i, .pointer (some ⟨b, 0, none⟩)] w fun e w' =>
    e = .returned (.agg #[.int .i64 (addI (intI 1) (divI (mulI r p) (intI i))).1, .int .i64 (addI (intI 1) (divI (mulI r p) (intI i))).2]) ∧ Below w.heap.size w w' := by
  have lb : b < w.heap.size := World.block_lt_of_cell? _ _ c0
  have I1 := Lib.hid (fun w => Integer_any 1 (by unfold In64; omega) w)
  have M := Lib.hid (fun w => MulI_any r p hr hp w)
  have II := Lib.hid (fun w => Integer_any i hi w)
  have D := Lib.hid (fun w => DivI_any (mulI r p) (intI i) (res_ok (mul_res _ _)) (int_ok _) w)
  have A := Lib.hid (fun w => AddI_any (intI 1) (divI (mulI r p) (intI i)) w)
  generalize addI (intI 1) (divI (mulI r p) (intI i)) = z at *
  generalize divI (mulI r p) (intI i) = d at *
  generalize mulI r p = m at *
  generalize intI i = ii at *
  generalize intI 1 = i1 at *
  go_enter Tryz.func134, Tryz.ntmps134
  go_wp2_with fail
  have z0 := pslot_of (w := ((w.alloc (.cells #[.int .i64 p.1, .int .i64 p.2] 23)).alloc (.cells #[.int .i64 0, .int .i64 0] 23))) (a := ⟨w.heap.size + 1, 0, none⟩) (v := .int .i64 0) (by simp [go_sem]) (by simp [go_sem])
  have z1 := pslot_of (w := ((w.alloc (.cells #[.int .i64 p.1, .int .i64 p.2] 23)).alloc (.cells #[.int .i64 0, .int .i64 0] 23))) (a := ⟨w.heap.size + 1, 1, none⟩) (v := .int .i64 0) (by simp [go_sem]) (by simp [go_sem])
  obtain ⟨hlt2, hlt3, hlt4, hlt5, hlt6, hlt7, hlt8, hlt9, hlt10, hlt11⟩ := below_add; go_region_held3 (fun w' => w'.cell? ⟨b, 0, none⟩ = some (.int .i64 r.1) ∧ w'.cell? ⟨b, 1, none⟩ = some (.int .i64 r.2) ∧ w'.cell? ⟨w.heap.size, 0, none⟩ = some (.int .i64 p.1) ∧ w'.cell? ⟨w.heap.size, 1, none⟩ = some (.int .i64 p.2) ∧ (w'.cell? ⟨w.heap.size + 1, 0, none⟩ = some (peek w' ⟨w.heap.size + 1, 0, none⟩) ∧ w'.frozen? ⟨w.heap.size + 1, 0, none⟩ = false) ∧ (w'.cell? ⟨w.heap.size + 1, 1, none⟩ = some (peek w' ⟨w.heap.size + 1, 1, none⟩) ∧ w'.frozen? ⟨w.heap.size + 1, 1, none⟩ = false)) (first | (with_reducible exact ((And.imp (cell_kept (by assumption)) (And.imp (cell_kept (by assumption)) (And.imp (cell_kept (by assumption)) (And.imp (cell_kept (by assumption)) (And.imp (pslot_kept (by assumption)) (pslot_kept (by assumption))))))) (by assumption))) | (with_reducible exact ((And.imp (cell_alloc) (And.imp (cell_alloc) (And.imp (cell_alloc) (And.imp (cell_alloc) (And.imp (pslot_alloc) (pslot_alloc)))))) (by assumption))) | (with_reducible exact ((And.imp (fun h => cell_far (by first | (simp; done) | (simp; omega) | (dsimp only; omega)) (cell_far (by first | (simp; done) | (simp; omega) | (dsimp only; omega)) h)) (And.imp (fun h => cell_far (by first | (simp; done) | (simp; omega) | (dsimp only; omega)) (cell_far (by first | (simp; done) | (simp; omega) | (dsimp only; omega)) h)) (And.imp (fun h => cell_far (by first | (simp; done) | (simp; omega) | (dsimp only; omega)) (cell_far (by first | (simp; done) | (simp; omega) | (dsimp only; omega)) h)) (And.imp (fun h => cell_far (by first | (simp; done) | (simp; omega) | (dsimp only; omega)) (cell_far (by first | (simp; done) | (simp; omega) | (dsimp only; omega)) h)) (And.imp (fun h => pslot_set (pslot_set h)) (fun h => pslot_set (pslot_set h))))))) (by assumption))) | (refine ⟨?_, ?_, ?_, ?_, ?_, ?_⟩ <;> repeat (first | (with_reducible assumption) | (with_reducible refine cell_far (by first | (simp; done) | (simp; omega) | (dsimp only; omega)) ?_) | (with_reducible refine cell_drew ?_) | (with_reducible refine cell_drewN ?_) | (with_reducible refine cell_kept (by assumption) ?_) | (with_reducible exact pslot_of (by assumption) (by assumption)) | (with_reducible refine pslot_drew ?_) | (with_reducible refine pslot_kept (by assumption) ?_) | (with_reducible refine pslot_alloc ?_) | (simp [go_sem]; done) | (with_reducible refine cell_alloc ?_))) | (simp [go_sem, *]; done)) (first | (go_at_call 48; with_reducible refine (I1.out _).mono ?_; rintro e w1 ⟨rfl, hb⟩; have hs : _ ≤ w1.heap.size := hb.size; (try simp at hs); obtain ⟨hc, hf, hl, hn, hm⟩ := behind hb) | (go_at_call 100; refine (M.out _).mono ?_; rintro e w1 ⟨rfl, hb⟩; have hs : _ ≤ w1.heap.size := hb.size; (try simp at hs); obtain ⟨hc, hf, hl, hn, hm⟩ := behind hb) | (go_at_call 48; with_reducible refine (II.out _).mono ?_; rintro e w1 ⟨rfl, hb⟩; have hs : _ ≤ w1.heap.size := hb.size; (try simp at hs); obtain ⟨hc, hf, hl, hn, hm⟩ := behind hb) | (go_at_call 46; refine (D.out _).mono ?_; rintro e w1 ⟨rfl, hb⟩; have hs : _ ≤ w1.heap.size := hb.size; (try simp at hs); obtain ⟨hc, hf, hl, hn, hm⟩ := behind hb) | (go_at_call 49; refine (A.out _).mono ?_; rintro e w1 ⟨rfl, hb⟩; have hs : _ ≤ w1.heap.size := hb.size; (try simp at hs); obtain ⟨hc, hf, hl, hn, hm⟩ := behind hb))
  all_goals (go_wp2; have o_j0 : Own (w1) (w.heap.size + 1) 0 (.int .i64 0) := ownJ; obtain ⟨j0, f_j0⟩ := o_j0; have o_j1 : Own (w1) (w.heap.size + 1) 1 (.int .i64 0) := ownJ; obtain ⟨j1, f_j1⟩ := o_j1; exact bodyPost_ret (v := .agg #[.int .i64 (z).1, .int .i64 (z).2]) (by simp [results, Tryz.results134, go_sem, j0, j1]) rfl ⟨rfl, belB⟩)
theorem nestedE (r : Iv) (hr : Ok r) (b B : Nat) (w : World) (c0 : w.cell? ⟨b, 0, none⟩ = some (.int .i64 r.1)) (c1 : w.cell? ⟨b, 1, none⟩ = some (.int .i64 r.2)) (d0 : w.cell? ⟨B, 0, none⟩ = some (.int .i64 9)) (d1 : w.cell? ⟨B, 1, none⟩ = some (.int .i64 8)) (d2 : w.cell? ⟨B, 2, none⟩ = some (.int .i64 7)) (d3 : w.cell? ⟨B, 3, none⟩ = some (.int .i64 6)) (d4 : w.cell? ⟨B, 4, none⟩ = some (.int .i64 5)) (d5 : w.cell? ⟨B, 5, none⟩ = some (.int .i64 4)) (d6 : w.cell? ⟨B, 6, none⟩ = some (.int .i64 3)) (d7 : w.cell? ⟨B, 7, none⟩ = some (.int .i64 2)) (d8 : w.cell? ⟨B, 8, none⟩ = some (.int .i64 1)) : Calls Tryz.prog 133 #[.agg #[.int .i64 (intI 1).1, .int .i64 (intI 1).2], .slice (some ⟨B, 0, none⟩) 9 9, .func (Fn.func 134) #[] #[.pointer (some ⟨b, 0, none⟩)]] w fun e w' =>
    e = .returned (.agg #[.int .i64 (expL r 9).1, .int .i64 (expL r 9).2]) ∧ Below w.heap.size w w' := by
  have lb : b < w.heap.size := World.block_lt_of_cell? _ _ c0
  have lB : B < w.heap.size := World.block_lt_of_cell? _ _ d0
  have HC := Lib.hid (show ∀ j : Nat, j < 9 → w.cell? ⟨B, j, none⟩ = some (.int .i64 (9 - (j : Int))) from by
    intro j hj
    rcases (show j = 0 ∨ j = 1 ∨ j = 2 ∨ j = 3 ∨ j = 4 ∨ j = 5 ∨ j = 6 ∨ j = 7 ∨ j = 8 by omega) with rfl | rfl | rfl | rfl | rfl | rfl | rfl | rfl | rfl <;> assumption)
  have K0 := Lib.hid c0
  have K1 := Lib.hid c1
  clear d0 d1 d2 d3 d4 d5 d6 d7 d8 c0 c1
  go_enter Tryz.func133, Tryz.ntmps133
  go_wp2_with fail
  go_loopw [11] (fun k wr => ∃ j : Nat, j ≤ 9 ∧ k = .int .i64 (j : Int) ∧ Own wr w.heap.size 0 (.int .i64 (expL r j).1) ∧ Own wr w.heap.size 1 (.int .i64 (expL r j).2) ∧ Own wr (w.heap.size + 1) 0 (.int .i64 0) ∧ Own wr (w.heap.size + 1) 1 (.int .i64 0) ∧ Below w.heap.size w wr) (fun k _ => ((9 : Int) - intOf k).toNat)
  case atStart => exact ⟨0, by omega, rfl, ⟨by simp [go_sem, expL], by simp [go_sem]⟩, ⟨by simp [go_sem, expL], by simp [go_sem]⟩, ⟨by simp [go_sem], by simp [go_sem]⟩, ⟨by simp [go_sem], by simp [go_sem]⟩, belB⟩
  case round =>
    obtain ⟨j, hj, rfl, v0, v1, r0, r1, hb⟩ := hrel
    have hsz := hb.size
    obtain ⟨cv0, fv0⟩ := id v0
    obtain ⟨cv1, fv1⟩ := id v1
    by_cases k : j < 9
    · have k1 : (j : Int) < 9 := by omega
      have x0 : wr.cell? ⟨B, j, none⟩ = some (.int .i64 (9 - (j : Int))) := by rw [hb.cell lB]; exact HC.out j k
      have q0 : wr.cell? ⟨b, 0, none⟩ = some (.int .i64 r.1) := cell_kept hb K0.out
      have q1 : wr.cell? ⟨b, 1, none⟩ = some (.int .i64 r.2) := cell_kept hb K1.out
      have L := Lib.hid (fun w => expLit r (expL r j) hr (res_ok (expL_res _ _)) (9 - (j : Int)) (by unfold In64; omega) b w)
      have E := Lib.hid (show expL r (j + 1) = addI (intI 1) (divI (mulI r (expL r j)) (intI (9 - (j : Int)))) from rfl)
      generalize addI (intI 1) (divI (mulI r (expL r j)) (intI (9 - (j : Int)))) = z at *
      generalize expL r j = s at *
      go_wp2_with fail
      refine (L.out _ q0 q1).mono ?_
      rintro e w20 ⟨rfl, hb20⟩
      have hs20 : _ ≤ w20.heap.size := hb20.size
      try simp at hs20
      have zV0 : Own w20 w.heap.size 0 (.int .i64 s.1) := own_kept hb20 v0
      have zV1 : Own w20 w.heap.size 1 (.int .i64 s.2) := own_kept hb20 v1
      have zR0 : Own w20 (w.heap.size + 1) 0 (.int .i64 0) := own_kept hb20 r0
      have zR1 : Own w20 (w.heap.size + 1) 1 (.int .i64 0) := own_kept hb20 r1
      obtain ⟨dS0, eS0⟩ := id zV0
      obtain ⟨dS1, eS1⟩ := id zV1
      go_wp2
      go_roundw
      case rel => exact ⟨j + 1, by omega, by go_num, by rw [E.out]; exact own_next (by decide) (own_put zV0), by rw [E.out]; exact own_put (own_next (by decide) zV1), own_far (by dsimp only; omega) (own_far (by dsimp only; omega) zR0), own_far (by dsimp only; omega) (own_far (by dsimp only; omega) zR1), belB⟩
      case measure => first | (simp [intOf]; done) | (simp [intOf]; omega)
    · have e : j = 9 := by omega
      subst e
      obtain ⟨cr0, fr0⟩ := id r0
      obtain ⟨cr1, fr1⟩ := id r1
      go_wp2
      exact bodyPost_ret (v := .agg #[.int .i64 (expL r 9).1, .int .i64 (expL r 9).2]) (by simp [results, Tryz.results133, go_sem, cr0, cr1]) rfl ⟨rfl, belB⟩
theorem expSeries_any (r : Iv) (hr : Ok r) (w : World) (hg : GloT w) : Calls Tryz.prog 106 #[.agg #[.int .i64 r.1, .int .i64 r.2]] w fun e w' =>
    e = .returned (.agg #[.int .i64 (expS r).1, .int .i64 (expS r).2]) ∧ Below w.heap.size w w' := by
  have I1 := Lib.hid (fun w => Integer_any 1 (by unfold In64; omega) w)
  have N := Lib.hid (fun b B w => nestedE r hr b B w)
  have A := Lib.hid (fun w => AddI_any (expL r 9) tin w)
  have E := Lib.hid (show expS r = addI (expL r 9) tin from rfl)
  have lg := hg.lt
  generalize expS r = Y at *
  generalize addI (expL r 9) tin = z at *
  generalize expL r 9 = s at *
  generalize intI 1 = i1 at *
  go_enter Tryz.func106, Tryz.ntmps106
  go_upto_region 2 with fail
  go_cut [4] (fun s4 wx => ∃ h : Nat, s4 = .pointer (some ⟨h, 0, none⟩) ∧ Own wx h 0 (.int .i64 s.1) ∧ Own wx h 1 (.int .i64 s.2) ∧ w.heap.size + 1 < h ∧ Own wx (w.heap.size + 1) 0 (.int .i64 0) ∧ Own wx (w.heap.size + 1) 1 (.int .i64 0) ∧ Below w.heap.size w wx)
  case first =>
    obtain ⟨hlt2, hlt3, hlt4, hlt5, hlt6, hlt7, hlt8, hlt9, hlt10, hlt11⟩ := below_add; go_region_held3 (fun w' => w'.cell? ⟨w.heap.size, 0, none⟩ = some (.int .i64 r.1) ∧ w'.cell? ⟨w.heap.size, 1, none⟩ = some (.int .i64 r.2) ∧ w'.cell? ⟨w.heap.size + 1 + 1, 0, none⟩ = some (.int .i64 9) ∧ w'.cell? ⟨w.heap.size + 1 + 1, 1, none⟩ = some (.int .i64 8) ∧ w'.cell? ⟨w.heap.size + 1 + 1, 2, none⟩ = some (.int .i64 7) ∧ w'.cell? ⟨w.heap.size + 1 + 1, 3, none⟩ = some (.int .i64 6) ∧ w'.cell? ⟨w.heap.size + 1 + 1, 4, none⟩ = some (.int .i64 5) ∧ w'.cell? ⟨w.heap.size + 1 + 1, 5, none⟩ = some (.int .i64 4) ∧ w'.cell? ⟨w.heap.size + 1 + 1, 6, none⟩ = some (.int .i64 3) ∧ w'.cell? ⟨w.heap.size + 1 + 1, 7, none⟩ = some (.int .i64 2) ∧ w'.cell? ⟨w.heap.size + 1 + 1, 8, none⟩ = some (.int .i64 1)) (first | (with_reducible exact ((And.imp (cell_kept (by assumption)) (And.imp (cell_kept (by assumption)) (And.imp (cell_kept (by assumption)) (And.imp (cell_kept (by assumption)) (And.imp (cell_kept (by assumption)) (And.imp (cell_kept (by assumption)) (And.imp (cell_kept (by assumption)) (And.imp (cell_kept (by assumption)) (And.imp (cell_kept (by assumption)) (And.imp (cell_kept (by assumption)) (cell_kept (by assumption)))))))))))) (by assumption))) | (with_reducible exact ((And.imp (cell_alloc) (And.imp (cell_alloc) (And.imp (cell_alloc) (And.imp (cell_alloc) (And.imp (cell_alloc) (And.imp (cell_alloc) (And.imp (cell_alloc) (And.imp (cell_alloc) (And.imp (cell_alloc) (And.imp (cell_alloc) (cell_alloc))))))))))) (by assumption))) | (with_reducible exact ((And.imp (fun h => cell_far (by first | (simp; done) | (simp; omega) | (dsimp only; omega)) (cell_far (by first | (simp; done) | (simp; omega) | (dsimp only; omega)) h)) (And.imp (fun h => cell_far (by first | (simp; done) | (simp; omega) | (dsimp only; omega)) (cell_far (by first | (simp; done) | (simp; omega) | (dsimp only; omega)) h)) (And.imp (fun h => cell_far (by first | (simp; done) | (simp; omega) | (dsimp only; omega)) (cell_far (by first | (simp; done) | (simp; omega) | (dsimp only; omega)) h)) (And.imp (fun h => cell_far (by first | (simp; done) | (simp; omega) | (dsimp only; omega)) (cell_far (by first | (simp; done) | (simp; omega) | (dsimp only; omega)) h)) (And.imp (fun h => cell_far (by first | (simp; done) | (simp; omega) | (dsimp only; omega)) (cell_far (by first | (simp; done) | (simp; omega) | (dsimp only; omega)) h)) (And.imp (fun h => cell_far (by first | (simp; done) | (simp; omega) | (dsimp only; omega)) (cell_far (by first | (simp; done) | (simp; omega) | (dsimp only; omega)) h)) (And.imp (fun h => cell_far (by first | (simp; done) | (simp; omega) | (dsimp only; omega)) (cell_far (by first | (simp; done) | (simp; omega) | (dsimp only; omega)) h)) (And.imp (fun h => cell_far (by first | (simp; done) | (simp; omega) | (dsimp only; omega)) (cell_far (by first | (simp; done) | (simp; omega) | (dsimp only; omega)) h)) (And.imp (fun h => cell_far (by first | (simp; done) | (simp; omega) | (dsimp only; omega)) (cell_far (by first | (simp; done) | (simp; omega) | (dsimp only; omega)) h)) (And.imp (fun h => cell_far (by first | (simp; done) | (simp; omega) | (dsimp only; omega)) (cell_far (by first | (simp; done) | (simp; omega) | (dsimp only; omega)) h)) (fun h => cell_far (by first | (simp; done) | (simp; omega) | (dsimp only; omega)) (cell_far (by first | (simp; done) | (simp; omega) | (dsimp only; omega)) h)))))))))))) (by assumption))) | (refine ⟨?_, ?_, ?_, ?_, ?_, ?_, ?_, ?_, ?_, ?_, ?_⟩ <;> repeat (first | (with_reducible assumption) | (with_reducible refine cell_far (by first | (simp; done) | (simp; omega) | (dsimp only; omega)) ?_) | (with_reducible refine cell_drew ?_) | (with_reducible refine cell_drewN ?_) | (with_reducible refine cell_kept (by assumption) ?_) | (simp [go_sem]; done) | (with_reducible refine cell_alloc ?_))) | (simp [go_sem, *]; done)) (first | (go_at_call 48; refine (I1.out _).mono ?_; rintro e w1 ⟨rfl, hb⟩; have hs : _ ≤ w1.heap.size := hb.size; (try simp at hs); obtain ⟨hc, hf, hl, hn, hm⟩ := behind hb) | (go_at_call 133; refine (N.out _ _ _ (by simp [go_sem, *]) (by simp [go_sem, *]) (by simp [go_sem, *]) (by simp [go_sem, *]) (by simp [go_sem, *]) (by simp [go_sem, *]) (by simp [go_sem, *]) (by simp [go_sem, *]) (by simp [go_sem, *]) (by simp [go_sem, *]) (by simp [go_sem, *])).mono ?_; rintro e w1 ⟨rfl, hb⟩; have hs : _ ≤ w1.heap.size := hb.size; (try simp at hs); obtain ⟨hc, hf, hl, hn, hm⟩ := behind hb))
    all_goals (go_wp2_with fail; go_meet)
    all_goals first
      | (have o_jr0 : Own (w1) (w.heap.size + 1) 0 (.int .i64 0) := ownJ; have jr0 := o_jr0.1; have f_jr0 := o_jr0.2; have o_jr1 : Own (w1) (w.heap.size + 1) 1 (.int .i64 0) := ownJ; have jr1 := o_jr1.1; have f_jr1 := o_jr1.2; have lz := World.block_lt_of_cell? _ _ jr0; exact ⟨_, rfl, ⟨by simp [go_sem], by simp [go_sem]⟩, ⟨by simp [go_sem], by simp [go_sem]⟩, lz, own_alloc o_jr0, own_alloc o_jr1, belB⟩)
      | (have o_jr0 : Own (w1) (w.heap.size + 1) 0 (.int .i64 0) := ownJ; have jr0 := o_jr0.1; have f_jr0 := o_jr0.2; have o_jr1 : Own (w1) (w.heap.size + 1) 1 (.int .i64 0) := ownJ; have jr1 := o_jr1.1; have f_jr1 := o_jr1.2; refine ⟨_, rfl, own_next (by decide) (own_put (v := .int .i64 0) ?_), own_put (v := .int .i64 0) (own_next (by decide) ?_), ?_, own_far ?_ (own_far ?_ o_jr0), own_far ?_ (own_far ?_ o_jr1), belB⟩; all_goals first | omega | (dsimp only; omega) | (simp; omega) | (repeat (first | (with_reducible assumption) | (with_reducible refine own_drew ?_) | (with_reducible refine own_drewN ?_) | (with_reducible refine own_kept (by assumption) ?_) | (refine ⟨?_, ?_⟩ <;> simp [go_sem]; done) | (with_reducible refine own_alloc ?_))))
  case rest =>
    obtain ⟨h, rfl, V0, V1, lh, R0, R1, hb⟩ := hcut
    have hsb := hb.size
    obtain ⟨g2, g3⟩ : GloT wc := hg.kept hb
    have l1 : 0 < wc.heap.size := World.block_lt_of_cell? _ _ g2
    obtain ⟨cv0, fv0⟩ := id V0
    obtain ⟨cv1, fv1⟩ := id V1
    have lh2 : h < wc.heap.size := World.block_lt_of_cell? _ _ cv0
    go_wp2_with fail
    refine (A.out _).mono ?_
    rintro e w9 ⟨rfl, hb9⟩
    have hs9 : _ ≤ w9.heap.size := hb9.size
    try simp at hs9
    have o_j0 : Own (w9) (w.heap.size + 1) 0 (.int .i64 0) := ownJ; obtain ⟨j0, f_j0⟩ := o_j0; have o_j1 : Own (w9) (w.heap.size + 1) 1 (.int .i64 0) := ownJ; obtain ⟨j1, f_j1⟩ := o_j1
    go_wp2
    exact bodyPost_ret (v := .agg #[.int .i64 (z).1, .int .i64 (z).2]) (by simp [results, Tryz.results106, go_sem, j0, j1]) rfl ⟨by rw [E.out], belB⟩
end Go.Proofs.YtnnanbaldcjfiaaGreatDoor
