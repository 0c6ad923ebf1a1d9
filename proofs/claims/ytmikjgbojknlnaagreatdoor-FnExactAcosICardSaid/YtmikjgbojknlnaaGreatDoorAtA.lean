/- Contracts of the series of the arc tangent, program and model. Conditions: numbers are int64; the program's two intervals are laid. -/
import Derived.Test.YtmikjgbojknlnaaGreatDoorNumX
import Derived.Test.YtmikjgbojknlnaaGreatDoorAtZ
import Derived.Test.YtmikjgbojknlnaaGreatDoorIvD
import Derived.Test.YtmikjgbojknlnaaGreatDoorIvE
import Derived.Test.YtmikjgbojknlnaaGreatDoorIvF
import Derived.Test.YtmikjgbojknlnaaGreatDoorIvN
import Derived.Test.YtmikjgbojknlnaaGreatDoorIvM
import Derived.Test.YtmikjgbojknlnaaGreatDoorIvW
import Derived.Test.YtmikjgbojknlnaaGreatDoorIvX
import Derived.Test.YtmikjgbojknlnaaGreatDoorIvT
import Derived.Test.YtmikjgbojknlnaaGreatDoorIvS
import Derived.Test.YtmikjgbojknlnaaGreatDoorIvR
import Derived.Test.YtmikjgbojknlnaaGreatDoorIvV
import Derived.Test.YtmikjgbojknlnaaGreatDoorIvLd
import Derived.LoopN
import Derived.Handy
import Derived.Deep.RegionHeld3
import Derived.Outline
namespace Go.Proofs.YtmikjgbojknlnaaGreatDoor
open Go.ChangeShapes Go.WideShapes Go.ChangeAt Go.RowKit
set_option linter.unusedVariables false
set_option maxRecDepth 100000
set_option linter.unusedSimpArgs false
set_option maxHeartbeats 1000000
set_option maxHeartbeats 8000000 in
theorem ArcSeries_any (x : Iv) (hx : Ok x) (w : World) (hg : GloT w) : Calls Tryz.prog 143 #[.agg #[.int .i64 x.1, .int .i64 x.2]] w fun e w' =>
    e = .returned (.agg #[.int .i64 (atS x).1, .int .i64 (atS x).2]) ∧ Below w.heap.size w w' := by
  have I := Lib.hid (fun w => InsideI_any x lim w)
  have lgl := hg.lt
  cases c : insI x lim
  · have C := Lib.hid c
    have E := Lib.hid (show atS x = whl from if_neg (by rw [c]; simp))
    clear c
    go_enter Tryz.func143, Tryz.ntmps143
    go_wp2_with fail
    refine (I.out _).mono ?_
    rintro e w1 ⟨rfl, hb1⟩
    have hs1 : _ ≤ w1.heap.size := hb1.size
    try simp at hs1
    rw [C.out]
    have o_r10 : Own (w1) (w.heap.size + 1) 0 (.int .i64 0) := ownJ; have r10 := o_r10.1; have f_r10 := o_r10.2; have o_r11 : Own (w1) (w.heap.size + 1) 1 (.int .i64 0) := ownJ; have r11 := o_r11.1; have f_r11 := o_r11.2
    go_wp2_with fail
    refine (Whole_any _).mono ?_
    rintro e w2 ⟨rfl, hb2⟩
    have hs2 : _ ≤ w2.heap.size := hb2.size
    try simp at hs2
    have o_r20 : Own (w2) (w.heap.size + 1) 0 (.int .i64 0) := ownJ; obtain ⟨r20, f_r20⟩ := o_r20; have o_r21 : Own (w2) (w.heap.size + 1) 1 (.int .i64 0) := ownJ; obtain ⟨r21, f_r21⟩ := o_r21
    go_wp2
    exact bodyPost_ret (v := .agg #[.int .i64 (-1152921504606846976), .int .i64 1152921504606846976]) (by simp [results, Tryz.results143, go_sem, r20, r21]) rfl ⟨(by first | (rw [E.out]; done) | (rw [E.out]; rfl) | (simp [E.out]; done)), belB⟩
  · have C := Lib.hid c
    have ES := Lib.hid (show atS x = addI (mulI x (atL (sqrI x) 10)) tin from if_pos c)
    clear c
    have Q := Lib.hid (fun w => SqrI_any x w)
    have Q0 := Lib.hid (fun w => Quotient_any 1 21 (by unfold In64; omega) (by unfold In64; omega) w)
    have hy := res_ok (sqr_res x)
    have MX := Lib.hid (fun w => MulI_any x (atL (sqrI x) 10) hx (res_ok (atL_res _ _)) w)
    have AX := Lib.hid (fun w => AddI_any (mulI x (atL (sqrI x) 10)) tin w)
    generalize addI (mulI x (atL (sqrI x) 10)) tin = z at *
    generalize mulI x (atL (sqrI x) 10) = mx at *
    generalize sqrI x = y at *
    go_enter Tryz.func143, Tryz.ntmps143
    go_wp2_with fail
    refine (I.out _).mono ?_
    rintro e w1 ⟨rfl, hb1⟩
    have hs1 : _ ≤ w1.heap.size := hb1.size
    try simp at hs1
    rw [C.out]
    have o_x10 : Own (w1) (w.heap.size) 0 (.int .i64 x.1) := ownJ; have x10 := o_x10.1; have f_x10 := o_x10.2; have o_x11 : Own (w1) (w.heap.size) 1 (.int .i64 x.2) := ownJ; have x11 := o_x11.1; have f_x11 := o_x11.2
    have o_r10 : Own (w1) (w.heap.size + 1) 0 (.int .i64 0) := ownJ; have r10 := o_r10.1; have f_r10 := o_r10.2; have o_r11 : Own (w1) (w.heap.size + 1) 1 (.int .i64 0) := ownJ; have r11 := o_r11.1; have f_r11 := o_r11.2
    go_wp2_with fail
    refine (Q.out _).mono ?_
    rintro e w2 ⟨rfl, hb2⟩
    have hs2 : _ ≤ w2.heap.size := hb2.size
    try simp at hs2
    have o_x20 : Own (w2) (w.heap.size) 0 (.int .i64 x.1) := ownJ; have x20 := o_x20.1; have f_x20 := o_x20.2; have o_x21 : Own (w2) (w.heap.size) 1 (.int .i64 x.2) := ownJ; have x21 := o_x21.1; have f_x21 := o_x21.2
    have o_r20 : Own (w2) (w.heap.size + 1) 0 (.int .i64 0) := ownJ; have r20 := o_r20.1; have f_r20 := o_r20.2; have o_r21 : Own (w2) (w.heap.size + 1) 1 (.int .i64 0) := ownJ; have r21 := o_r21.1; have f_r21 := o_r21.2
    go_wp2_with fail
    refine (Q0.out _).mono ?_
    rintro e w3 ⟨rfl, hb3⟩
    have hs3 : _ ≤ w3.heap.size := hb3.size
    try simp at hs3
    have o_x30 : Own (w3) (w.heap.size) 0 (.int .i64 x.1) := ownJ; have x30 := o_x30.1; have f_x30 := o_x30.2; have o_x31 : Own (w3) (w.heap.size) 1 (.int .i64 x.2) := ownJ; have x31 := o_x31.1; have f_x31 := o_x31.2
    have o_r30 : Own (w3) (w.heap.size + 1) 0 (.int .i64 0) := ownJ; have r30 := o_r30.1; have f_r30 := o_r30.2; have o_r31 : Own (w3) (w.heap.size + 1) 1 (.int .i64 0) := ownJ; have r31 := o_r31.1; have f_r31 := o_r31.2
    obtain ⟨g, hg'⟩ : ∃ g, g = w3.heap.size := ⟨_, rfl⟩
    have n5 : w.heap.size + 1 < g := by rw [hg']; exact World.block_lt_of_cell? _ _ r30
    obtain ⟨v, hv'⟩ : ∃ v, v = w3.heap.size + 1 := ⟨_, rfl⟩
    have ngv : g < v := by omega
    have HG := Lib.hid hg'
    have HV := Lib.hid hv'
    go_wp2_with fail
    rw [← hv', ← hg']
    clear hv' hg'
    go_loopw [5] (fun k wr => ∃ j : Nat, j ≤ 10 ∧ k = .int .i64 (9 - (j : Int)) ∧ Own wr v 0 (.int .i64 (atL y j).1) ∧ Own wr v 1 (.int .i64 (atL y j).2) ∧ Own wr g 0 (.int .i64 y.1) ∧ Own wr g 1 (.int .i64 y.2) ∧ Own wr w.heap.size 0 (.int .i64 x.1) ∧ Own wr w.heap.size 1 (.int .i64 x.2) ∧ Own wr (w.heap.size + 1) 0 (.int .i64 0) ∧ Own wr (w.heap.size + 1) 1 (.int .i64 0) ∧ GloT wr ∧ Below w.heap.size w wr) (fun k _ => (intOf k + 1).toNat)
    case atStart =>
      have hg' := HG.out
      have hv' := HV.out
      subst hv'
      subst hg'
      exact ⟨0, by omega, rfl, ⟨by simp [go_sem, atL], by simp [go_sem]⟩, ⟨by simp [go_sem, atL], by simp [go_sem]⟩, own_alloc ⟨by simp [go_sem], by simp [go_sem]⟩, own_alloc ⟨by simp [go_sem], by simp [go_sem]⟩, own_alloc <| own_alloc o_x30, own_alloc <| own_alloc o_x31, own_alloc <| own_alloc o_r30, own_alloc <| own_alloc o_r31, (by repeat (first | (with_reducible assumption) | (with_reducible refine GloT.drew ?_) | (with_reducible refine GloT.kept ?_ (by assumption)) | (with_reducible refine GloT.alloc ?_ _))), belB⟩
    case round =>
      obtain ⟨j, hj, rfl, v0, v1, y0, y1, x0, x1, r0, r1, hgr, hb⟩ := hrel
      have hsz := hb.size
      have lg : v < wr.heap.size := World.block_lt_of_cell? _ _ v0.1
      obtain ⟨cv0, fv0⟩ := id v0
      obtain ⟨cv1, fv1⟩ := id v1
      obtain ⟨cy0, fy0⟩ := id y0
      obtain ⟨cy1, fy1⟩ := id y1
      obtain ⟨cx0, fx0⟩ := id x0
      obtain ⟨cx1, fx1⟩ := id x1
      obtain ⟨cr0, fr0⟩ := id r0
      obtain ⟨cr1, fr1⟩ := id r1
      by_cases k : j < 10
      · have K0 : decide (0 ≤ 9 - (j : Int)) = true := decide_eq_true (by omega)
        have WK : IntKind.i64.wrap (2 * (9 - (j : Int))) = 2 * (9 - (j : Int)) := by rw [IntKind.wrap_i64]; omega
        have WK2 : IntKind.i64.wrap (2 * (9 - (j : Int)) + 1) = 2 * (9 - (j : Int)) + 1 := by rw [IntKind.wrap_i64]; omega
        have QU := Lib.hid (fun w => Quotient_any 1 (2 * (9 - (j : Int)) + 1) (by unfold In64; omega) (by unfold In64; omega) w)
        have M := Lib.hid (fun w => MulI_any y (atL y j) hy (res_ok (atL_res _ _)) w)
        have B := Lib.hid (fun w => SubI_any (quoI 1 (2 * (9 - (j : Int)) + 1)) (mulI y (atL y j)) w)
        have E := Lib.hid (show atL y (j + 1) = subI (quoI 1 (2 * (9 - (j : Int)) + 1)) (mulI y (atL y j)) from rfl)
        generalize subI (quoI 1 (2 * (9 - (j : Int)) + 1)) (mulI y (atL y j)) = z at *
        generalize quoI 1 (2 * (9 - (j : Int)) + 1) = q at *
        generalize mulI y (atL y j) = m at *
        generalize atL y j = s at *
        go_wp2_with fail
        refine AnyS.region (S := OneS 8 (fun u => u.cell? ⟨v, 0, none⟩ = some (.int .i64 s.1) ∧ u.cell? ⟨v, 1, none⟩ = some (.int .i64 s.2) ∧ u.cell? ⟨g, 0, none⟩ = some (.int .i64 y.1) ∧ u.cell? ⟨g, 1, none⟩ = some (.int .i64 y.2))) (by kernel_rfl) (show AnyS _ _ _ _ _ 9 _ _ _ from ?_)
        refine AnyS.take (i := 0) (v := .int .i64 (9 - (j : Int))) (T := fun _ => True) [] rfl (by kernel_rfl) (by kernel_rfl) (by kernel_rfl) (by kernel_rfl) (by kernel_rfl) (fun _ _ _ h => h) (fun L u q s => trivial) (fun L u s => OneS.less (by decide) s) (Or.inl ⟨by rfl, ?_⟩) (fun _ => ⟨cv0, cv1, cy0, cy1⟩) ?_
        · intro u hu
          clear hu
          go_simp
        try simp only [Act.put, List.setIfInBounds_toArray, List.set_cons_zero, List.set_cons_succ]
        refine AnyS.take (i := 1) (v := .int .i64 (2 * (9 - (j : Int)))) (T := fun _ => True) [] rfl (by kernel_rfl) (by kernel_rfl) (by kernel_rfl) (by kernel_rfl) (by kernel_rfl) (fun _ _ _ h => h) (fun L u q s => trivial) (fun L u s => OneS.less (by decide) s) (Or.inl ⟨by rfl, ?_⟩) (fun _ => ⟨cv0, cv1, cy0, cy1⟩) ?_
        · intro u hu
          clear hu
          go_simp
        try simp only [Act.put, List.setIfInBounds_toArray, List.set_cons_zero, List.set_cons_succ]
        refine AnyS.take (i := 2) (v := .int .i64 (2 * (9 - (j : Int)) + 1)) (T := fun _ => True) [] rfl (by kernel_rfl) (by kernel_rfl) (by kernel_rfl) (by kernel_rfl) (by kernel_rfl) (fun _ _ _ h => h) (fun L u q s => trivial) (fun L u s => OneS.less (by decide) s) (Or.inl ⟨by rfl, ?_⟩) (fun _ => ⟨cv0, cv1, cy0, cy1⟩) ?_
        · intro u hu
          clear hu
          go_simp
        try simp only [Act.put, List.setIfInBounds_toArray, List.set_cons_zero, List.set_cons_succ]
        refine AnyS.take (i := 4) (v := .agg #[.int .i64 y.1, .int .i64 y.2]) (T := fun u => u.cell? ⟨v, 0, none⟩ = some (.int .i64 s.1) ∧ u.cell? ⟨v, 1, none⟩ = some (.int .i64 s.2) ∧ u.cell? ⟨g, 0, none⟩ = some (.int .i64 y.1) ∧ u.cell? ⟨g, 1, none⟩ = some (.int .i64 y.2)) [6, 7, 8] rfl (by kernel_rfl) (by kernel_rfl) (by kernel_rfl) (by kernel_rfl) (by kernel_rfl) (fun _ _ _ h => h) (fun L u q s => s (q 8 (by simp))) (fun L u s => OneS.less (by decide) s) (Or.inl ⟨by rfl, ?_⟩) (fun _ => ⟨cv0, cv1, cy0, cy1⟩) ?_
        · intro u hu
          obtain ⟨u0, u1, u2, u3⟩ := hu
          go_simp
        try simp only [Act.put, List.setIfInBounds_toArray, List.set_cons_zero, List.set_cons_succ]
        refine AnyS.take (i := 5) (v := .agg #[.int .i64 s.1, .int .i64 s.2]) (T := fun u => u.cell? ⟨v, 0, none⟩ = some (.int .i64 s.1) ∧ u.cell? ⟨v, 1, none⟩ = some (.int .i64 s.2) ∧ u.cell? ⟨g, 0, none⟩ = some (.int .i64 y.1) ∧ u.cell? ⟨g, 1, none⟩ = some (.int .i64 y.2)) [6, 7, 8] rfl (by kernel_rfl) (by kernel_rfl) (by kernel_rfl) (by kernel_rfl) (by kernel_rfl) (fun _ _ _ h => h) (fun L u q s => s (q 8 (by simp))) (fun L u s => OneS.less (by decide) s) (Or.inl ⟨by rfl, ?_⟩) (fun _ => ⟨cv0, cv1, cy0, cy1⟩) ?_
        · intro u hu
          obtain ⟨u0, u1, u2, u3⟩ := hu
          go_simp
        try simp only [Act.put, List.setIfInBounds_toArray, List.set_cons_zero, List.set_cons_succ]
        refine AnyS.one (i := 3) (by kernel_rfl) (AnyS.comes rfl (fun K hK => ?_))
        go_simp
        refine (QU.out _).mono ?_
        rintro e w11 ⟨rfl, hb11⟩
        have hs11 : _ ≤ w11.heap.size := hb11.size
        try simp at hs11
        have o_h0_11 : Own w11 v 0 (.int .i64 s.1) := own_kept hb11 (own_drew v0)
        have o_h1_11 : Own w11 v 1 (.int .i64 s.2) := own_kept hb11 (own_drew v1)
        have o_h2_11 : Own w11 g 0 (.int .i64 y.1) := own_kept hb11 (own_drew y0)
        have o_h3_11 : Own w11 g 1 (.int .i64 y.2) := own_kept hb11 (own_drew y1)
        have o_x0_11 : Own w11 w.heap.size 0 (.int .i64 x.1) := own_kept hb11 (own_drew x0)
        have o_x1_11 : Own w11 w.heap.size 1 (.int .i64 x.2) := own_kept hb11 (own_drew x1)
        have o_r0_11 : Own w11 (w.heap.size + 1) 0 (.int .i64 0) := own_kept hb11 (own_drew r0)
        have o_r1_11 : Own w11 (w.heap.size + 1) 1 (.int .i64 0) := own_kept hb11 (own_drew r1)
        go_wp2_with fail
        refine hK.out _ _ (fun _ => ⟨o_h0_11.1, o_h1_11.1, o_h2_11.1, o_h3_11.1⟩) ?_
        clear hK K
        try simp only [Act.put, List.setIfInBounds_toArray, List.set_cons_zero, List.set_cons_succ]
        refine AnyS.one (i := 6) (by kernel_rfl) (AnyS.comes rfl (fun K hK => ?_))
        go_simp
        refine (M.out _).mono ?_
        rintro e w12 ⟨rfl, hb12⟩
        have hs12 : _ ≤ w12.heap.size := hb12.size
        try simp at hs12
        have o_h0_12 : Own w12 v 0 (.int .i64 s.1) := own_kept hb12 o_h0_11
        have o_h1_12 : Own w12 v 1 (.int .i64 s.2) := own_kept hb12 o_h1_11
        have o_h2_12 : Own w12 g 0 (.int .i64 y.1) := own_kept hb12 o_h2_11
        have o_h3_12 : Own w12 g 1 (.int .i64 y.2) := own_kept hb12 o_h3_11
        have o_x0_12 : Own w12 w.heap.size 0 (.int .i64 x.1) := own_kept hb12 o_x0_11
        have o_x1_12 : Own w12 w.heap.size 1 (.int .i64 x.2) := own_kept hb12 o_x1_11
        have o_r0_12 : Own w12 (w.heap.size + 1) 0 (.int .i64 0) := own_kept hb12 o_r0_11
        have o_r1_12 : Own w12 (w.heap.size + 1) 1 (.int .i64 0) := own_kept hb12 o_r1_11
        go_wp2_with fail
        refine hK.out _ _ (fun _ => ⟨o_h0_12.1, o_h1_12.1, o_h2_12.1, o_h3_12.1⟩) ?_
        clear hK K
        try simp only [Act.put, List.setIfInBounds_toArray, List.set_cons_zero, List.set_cons_succ]
        refine AnyS.one (i := 7) (by kernel_rfl) (AnyS.comes rfl (fun K hK => ?_))
        go_simp
        refine (B.out _).mono ?_
        rintro e w13 ⟨rfl, hb13⟩
        have hs13 : _ ≤ w13.heap.size := hb13.size
        try simp at hs13
        have o_h0_13 : Own w13 v 0 (.int .i64 s.1) := own_kept hb13 o_h0_12
        have o_h1_13 : Own w13 v 1 (.int .i64 s.2) := own_kept hb13 o_h1_12
        have o_h2_13 : Own w13 g 0 (.int .i64 y.1) := own_kept hb13 o_h2_12
        have o_h3_13 : Own w13 g 1 (.int .i64 y.2) := own_kept hb13 o_h3_12
        have o_x0_13 : Own w13 w.heap.size 0 (.int .i64 x.1) := own_kept hb13 o_x0_12
        have o_x1_13 : Own w13 w.heap.size 1 (.int .i64 x.2) := own_kept hb13 o_x1_12
        have o_r0_13 : Own w13 (w.heap.size + 1) 0 (.int .i64 0) := own_kept hb13 o_r0_12
        have o_r1_13 : Own w13 (w.heap.size + 1) 1 (.int .i64 0) := own_kept hb13 o_r1_12
        go_wp2_with fail
        refine hK.out _ _ (fun _ => ⟨o_h0_13.1, o_h1_13.1, o_h2_13.1, o_h3_13.1⟩) ?_
        clear hK K
        try simp only [Act.put, List.setIfInBounds_toArray, List.set_cons_zero, List.set_cons_succ]
        obtain ⟨ch0, fh0⟩ := id o_h0_13
        obtain ⟨ch1, fh1⟩ := id o_h1_13
        refine AnyS.one (i := 8) (by kernel_rfl) (AnyS.comes rfl (fun K hK => ?_))
        go_simp
        refine hK.out _ _ (fun h => absurd h (by decide)) ?_
        clear hK K
        try simp only [Act.put, List.setIfInBounds_toArray, List.set_cons_zero, List.set_cons_succ]
        refine AnyS.done (by kernel_rfl) ?_ _
        go_wp2
        go_roundw
        case rel => exact ⟨j + 1, by omega, by go_num, by rw [E.out]; exact own_next (by decide) (own_put o_h0_13), by rw [E.out]; exact own_put (own_next (by decide) o_h1_13), own_far (by dsimp only; omega) (own_far (by dsimp only; omega) o_h2_13), own_far (by dsimp only; omega) (own_far (by dsimp only; omega) o_h3_13), own_far (by dsimp only; omega) (own_far (by dsimp only; omega) o_x0_13), own_far (by dsimp only; omega) (own_far (by dsimp only; omega) o_x1_13), own_far (by dsimp only; omega) (own_far (by dsimp only; omega) o_r0_13), own_far (by dsimp only; omega) (own_far (by dsimp only; omega) o_r1_13), (by exact ((show GloT w13 from by repeat (first | (with_reducible exact hgr) | (with_reducible refine GloT.drew ?_) | (with_reducible refine GloT.kept ?_ (by assumption)))).set (by dsimp only; omega)).set (by dsimp only; omega)), belB⟩
        case measure => first | (simp [intOf]; done) | (simp [intOf]; omega)
      · obtain rfl : j = 10 := by omega
        have k0 : wr.cell? ⟨1, 0, none⟩ = some (.int .i64 (-1)) := hgr.1
        have k1 : wr.cell? ⟨1, 1, none⟩ = some (.int .i64 1) := hgr.2
        have lt1 : 1 < wr.heap.size := World.block_lt_of_cell? _ _ k0
        have lx1 : w.heap.size < wr.heap.size := World.block_lt_of_cell? _ _ cx0
        have z0 := pslot_of (w := wr) (a := ⟨w.heap.size + 1, 0, none⟩) (v := .int .i64 0) cr0 fr0
        have z1 := pslot_of (w := wr) (a := ⟨w.heap.size + 1, 1, none⟩) (v := .int .i64 0) cr1 fr1
        generalize atL y 10 = s at *
        go_wp2_with fail
        obtain ⟨hlt2, hlt3, hlt4, hlt5, hlt6, hlt7, hlt8, hlt9, hlt10, hlt11⟩ := below_add; go_region_held3 (fun w' => w'.cell? ⟨w.heap.size, 0, none⟩ = some (.int .i64 x.1) ∧ w'.cell? ⟨w.heap.size, 1, none⟩ = some (.int .i64 x.2) ∧ w'.cell? ⟨v, 0, none⟩ = some (.int .i64 s.1) ∧ w'.cell? ⟨v, 1, none⟩ = some (.int .i64 s.2) ∧ w'.cell? ⟨1, 0, none⟩ = some (.int .i64 (-1)) ∧ w'.cell? ⟨1, 1, none⟩ = some (.int .i64 1) ∧ (w'.cell? ⟨w.heap.size + 1, 0, none⟩ = some (peek w' ⟨w.heap.size + 1, 0, none⟩) ∧ w'.frozen? ⟨w.heap.size + 1, 0, none⟩ = false) ∧ (w'.cell? ⟨w.heap.size + 1, 1, none⟩ = some (peek w' ⟨w.heap.size + 1, 1, none⟩) ∧ w'.frozen? ⟨w.heap.size + 1, 1, none⟩ = false)) (first | (with_reducible exact ((And.imp (cell_kept (by assumption)) (And.imp (cell_kept (by assumption)) (And.imp (cell_kept (by assumption)) (And.imp (cell_kept (by assumption)) (And.imp (cell_kept (by assumption)) (And.imp (cell_kept (by assumption)) (And.imp (pslot_kept (by assumption)) (pslot_kept (by assumption))))))))) (by assumption))) | (with_reducible exact ((And.imp (cell_alloc) (And.imp (cell_alloc) (And.imp (cell_alloc) (And.imp (cell_alloc) (And.imp (cell_alloc) (And.imp (cell_alloc) (And.imp (pslot_alloc) (pslot_alloc)))))))) (by assumption))) | (with_reducible exact ((And.imp (fun h => cell_far (by first | (simp; done) | (simp; omega) | (dsimp only; omega)) (cell_far (by first | (simp; done) | (simp; omega) | (dsimp only; omega)) h)) (And.imp (fun h => cell_far (by first | (simp; done) | (simp; omega) | (dsimp only; omega)) (cell_far (by first | (simp; done) | (simp; omega) | (dsimp only; omega)) h)) (And.imp (fun h => cell_far (by first | (simp; done) | (simp; omega) | (dsimp only; omega)) (cell_far (by first | (simp; done) | (simp; omega) | (dsimp only; omega)) h)) (And.imp (fun h => cell_far (by first | (simp; done) | (simp; omega) | (dsimp only; omega)) (cell_far (by first | (simp; done) | (simp; omega) | (dsimp only; omega)) h)) (And.imp (fun h => cell_far (by first | (simp; done) | (simp; omega) | (dsimp only; omega)) (cell_far (by first | (simp; done) | (simp; omega) | (dsimp only; omega)) h)) (And.imp (fun h => cell_far (by first | (simp; done) | (simp; omega) | (dsimp only; omega)) (cell_far (by first | (simp; done) | (simp; omega) | (dsimp only; omega)) h)) (And.imp (fun h => pslot_set (pslot_set h)) (fun h => pslot_set (pslot_set h))))))))) (by assumption))) | (refine ⟨?_, ?_, ?_, ?_, ?_, ?_, ?_, ?_⟩ <;> repeat (first | (with_reducible assumption) | (with_reducible refine cell_far (by first | (simp; done) | (simp; omega) | (dsimp only; omega)) ?_) | (with_reducible refine cell_drew ?_) | (with_reducible refine cell_drewN ?_) | (with_reducible refine cell_kept (by assumption) ?_) | (with_reducible exact pslot_of (by assumption) (by assumption)) | (with_reducible refine pslot_drew ?_) | (with_reducible refine pslot_kept (by assumption) ?_) | (with_reducible refine pslot_alloc ?_) | (simp [go_sem]; done) | (with_reducible refine cell_alloc ?_))) | (simp [go_sem, *]; done)) (first | (go_at_call 106; refine (MX.out _).mono ?_; rintro e w1 ⟨rfl, hb⟩; have hs : _ ≤ w1.heap.size := hb.size; (try simp at hs); obtain ⟨hc, hf, hl, hn, hm⟩ := behind hb) | (go_at_call 73; refine (AX.out _).mono ?_; rintro e w1 ⟨rfl, hb⟩; have hs : _ ≤ w1.heap.size := hb.size; (try simp at hs); obtain ⟨hc, hf, hl, hn, hm⟩ := behind hb))
        all_goals (go_wp2; have o_j0 : Own (w1) (w.heap.size + 1) 0 (.int .i64 0) := ownJ; obtain ⟨j0, f_j0⟩ := o_j0; have o_j1 : Own (w1) (w.heap.size + 1) 1 (.int .i64 0) := ownJ; obtain ⟨j1, f_j1⟩ := o_j1; exact bodyPost_ret (v := .agg #[.int .i64 (z).1, .int .i64 (z).2]) (by simp [results, Tryz.results143, go_sem, j0, j1]) rfl ⟨by rw [ES.out], belB⟩)
set_option maxHeartbeats 8000000 in
theorem sArcSeries_any (x : Iv) (hx : Ok x) (w : World) : Calls Tryz.prog 141 #[.agg #[.int .i64 x.1, .int .i64 x.2]] w fun e w' =>
    e = .returned (.agg #[.int .i64 (atS x).1, .int .i64 (atS x).2]) ∧ Below w.heap.size w w' := by
  have I := Lib.hid (fun w => sInsideI_any x lim w)
  skip
  cases c : insI x lim
  · have C := Lib.hid c
    have E := Lib.hid (show atS x = whl from if_neg (by rw [c]; simp))
    clear c
    go_enter Tryz.func141, Tryz.ntmps141
    go_wp2_with fail
    refine (I.out _).mono ?_
    rintro e w1 ⟨rfl, hb1⟩
    have hs1 : _ ≤ w1.heap.size := hb1.size
    try simp at hs1
    rw [C.out]
    have o_r10 : Own (w1) (w.heap.size + 1) 0 (.int .i64 0) := ownJ; have r10 := o_r10.1; have f_r10 := o_r10.2; have o_r11 : Own (w1) (w.heap.size + 1) 1 (.int .i64 0) := ownJ; have r11 := o_r11.1; have f_r11 := o_r11.2
    go_wp2_with fail
    refine (sWhole_any _).mono ?_
    rintro e w2 ⟨rfl, hb2⟩
    have hs2 : _ ≤ w2.heap.size := hb2.size
    try simp at hs2
    have o_r20 : Own (w2) (w.heap.size + 1) 0 (.int .i64 0) := ownJ; obtain ⟨r20, f_r20⟩ := o_r20; have o_r21 : Own (w2) (w.heap.size + 1) 1 (.int .i64 0) := ownJ; obtain ⟨r21, f_r21⟩ := o_r21
    go_wp2
    exact bodyPost_ret (v := .agg #[.int .i64 (-1152921504606846976), .int .i64 1152921504606846976]) (by simp [results, Tryz.results141, go_sem, r20, r21]) rfl ⟨(by first | (rw [E.out]; done) | (rw [E.out]; rfl) | (simp [E.out]; done)), belB⟩
  · have C := Lib.hid c
    have ES := Lib.hid (show atS x = addI (mulI x (atL (sqrI x) 10)) tin from if_pos c)
    clear c
    have Q := Lib.hid (fun w => sSqrI_any x w)
    have Q0 := Lib.hid (fun w => sQuotient_any 1 21 (by unfold In64; omega) (by unfold In64; omega) w)
    have hy := res_ok (sqr_res x)
    have MX := Lib.hid (fun w => sMulI_any x (atL (sqrI x) 10) w)
    have AX := Lib.hid (fun w => sAddI_any (mulI x (atL (sqrI x) 10)) tin w)
    generalize addI (mulI x (atL (sqrI x) 10)) tin = z at *
    generalize mulI x (atL (sqrI x) 10) = mx at *
    generalize sqrI x = y at *
    go_enter Tryz.func141, Tryz.ntmps141
    go_wp2_with fail
    refine (I.out _).mono ?_
    rintro e w1 ⟨rfl, hb1⟩
    have hs1 : _ ≤ w1.heap.size := hb1.size
    try simp at hs1
    rw [C.out]
    have o_x10 : Own (w1) (w.heap.size) 0 (.int .i64 x.1) := ownJ; have x10 := o_x10.1; have f_x10 := o_x10.2; have o_x11 : Own (w1) (w.heap.size) 1 (.int .i64 x.2) := ownJ; have x11 := o_x11.1; have f_x11 := o_x11.2
    have o_r10 : Own (w1) (w.heap.size + 1) 0 (.int .i64 0) := ownJ; have r10 := o_r10.1; have f_r10 := o_r10.2; have o_r11 : Own (w1) (w.heap.size + 1) 1 (.int .i64 0) := ownJ; have r11 := o_r11.1; have f_r11 := o_r11.2
    go_wp2_with fail
    refine (Q.out _).mono ?_
    rintro e w2 ⟨rfl, hb2⟩
    have hs2 : _ ≤ w2.heap.size := hb2.size
    try simp at hs2
    have o_x20 : Own (w2) (w.heap.size) 0 (.int .i64 x.1) := ownJ; have x20 := o_x20.1; have f_x20 := o_x20.2; have o_x21 : Own (w2) (w.heap.size) 1 (.int .i64 x.2) := ownJ; have x21 := o_x21.1; have f_x21 := o_x21.2
    have o_r20 : Own (w2) (w.heap.size + 1) 0 (.int .i64 0) := ownJ; have r20 := o_r20.1; have f_r20 := o_r20.2; have o_r21 : Own (w2) (w.heap.size + 1) 1 (.int .i64 0) := ownJ; have r21 := o_r21.1; have f_r21 := o_r21.2
    go_wp2_with fail
    refine (Q0.out _).mono ?_
    rintro e w3 ⟨rfl, hb3⟩
    have hs3 : _ ≤ w3.heap.size := hb3.size
    try simp at hs3
    have o_x30 : Own (w3) (w.heap.size) 0 (.int .i64 x.1) := ownJ; have x30 := o_x30.1; have f_x30 := o_x30.2; have o_x31 : Own (w3) (w.heap.size) 1 (.int .i64 x.2) := ownJ; have x31 := o_x31.1; have f_x31 := o_x31.2
    have o_r30 : Own (w3) (w.heap.size + 1) 0 (.int .i64 0) := ownJ; have r30 := o_r30.1; have f_r30 := o_r30.2; have o_r31 : Own (w3) (w.heap.size + 1) 1 (.int .i64 0) := ownJ; have r31 := o_r31.1; have f_r31 := o_r31.2
    have o_y30 : Own (w3) (w2.heap.size) 0 (.int .i64 y.1) := ownJ; have y30 := o_y30.1; have f_y30 := o_y30.2; have o_y31 : Own (w3) (w2.heap.size) 1 (.int .i64 y.2) := ownJ; have y31 := o_y31.1; have f_y31 := o_y31.2
    obtain ⟨g, hg'⟩ : ∃ g, g = w2.heap.size := ⟨_, rfl⟩
    obtain ⟨v, hv'⟩ : ∃ v, v = w3.heap.size := ⟨_, rfl⟩
    have n5 : w.heap.size + 1 < g := by rw [hg']; exact World.block_lt_of_cell? _ _ r20
    have ngv : g < v := by rw [hg', hv']; exact World.block_lt_of_cell? _ _ y30
    have HG := Lib.hid hg'
    have HV := Lib.hid hv'
    go_wp2_with fail
    rw [← hv', ← hg']
    clear hv' hg'
    go_loopw [5] (fun k wr => ∃ j : Nat, j ≤ 10 ∧ k = .int .i64 (9 - (j : Int)) ∧ Own wr v 0 (.int .i64 (atL y j).1) ∧ Own wr v 1 (.int .i64 (atL y j).2) ∧ Own wr g 0 (.int .i64 y.1) ∧ Own wr g 1 (.int .i64 y.2) ∧ Own wr w.heap.size 0 (.int .i64 x.1) ∧ Own wr w.heap.size 1 (.int .i64 x.2) ∧ Own wr (w.heap.size + 1) 0 (.int .i64 0) ∧ Own wr (w.heap.size + 1) 1 (.int .i64 0) ∧ Below w.heap.size w wr) (fun k _ => (intOf k + 1).toNat)
    case atStart =>
      have hg' := HG.out
      have hv' := HV.out
      subst hv'
      subst hg'
      exact ⟨0, by omega, rfl, ⟨by simp [go_sem, atL], by simp [go_sem]⟩, ⟨by simp [go_sem, atL], by simp [go_sem]⟩, own_alloc o_y30, own_alloc o_y31, own_alloc o_x30, own_alloc o_x31, own_alloc o_r30, own_alloc o_r31, belB⟩
    case round =>
      obtain ⟨j, hj, rfl, v0, v1, y0, y1, x0, x1, r0, r1, hb⟩ := hrel
      have hsz := hb.size
      have lg : v < wr.heap.size := World.block_lt_of_cell? _ _ v0.1
      obtain ⟨cv0, fv0⟩ := id v0
      obtain ⟨cv1, fv1⟩ := id v1
      obtain ⟨cy0, fy0⟩ := id y0
      obtain ⟨cy1, fy1⟩ := id y1
      obtain ⟨cx0, fx0⟩ := id x0
      obtain ⟨cx1, fx1⟩ := id x1
      obtain ⟨cr0, fr0⟩ := id r0
      obtain ⟨cr1, fr1⟩ := id r1
      by_cases k : j < 10
      · have K0 : decide (0 ≤ 9 - (j : Int)) = true := decide_eq_true (by omega)
        have WK : IntKind.i64.wrap (2 * (9 - (j : Int))) = 2 * (9 - (j : Int)) := by rw [IntKind.wrap_i64]; omega
        have WK2 : IntKind.i64.wrap (2 * (9 - (j : Int)) + 1) = 2 * (9 - (j : Int)) + 1 := by rw [IntKind.wrap_i64]; omega
        have QU := Lib.hid (fun w => sQuotient_any 1 (2 * (9 - (j : Int)) + 1) (by unfold In64; omega) (by unfold In64; omega) w)
        have M := Lib.hid (fun w => sMulI_any y (atL y j) w)
        have B := Lib.hid (fun w => sSubI_any (quoI 1 (2 * (9 - (j : Int)) + 1)) (mulI y (atL y j)) w)
        have E := Lib.hid (show atL y (j + 1) = subI (quoI 1 (2 * (9 - (j : Int)) + 1)) (mulI y (atL y j)) from rfl)
        generalize subI (quoI 1 (2 * (9 - (j : Int)) + 1)) (mulI y (atL y j)) = z at *
        generalize quoI 1 (2 * (9 - (j : Int)) + 1) = q at *
        generalize mulI y (atL y j) = m at *
        generalize atL y j = s at *
        go_wp2_with fail
        refine AnyS.region (S := OneS 8 (fun u => u.cell? ⟨v, 0, none⟩ = some (.int .i64 s.1) ∧ u.cell? ⟨v, 1, none⟩ = some (.int .i64 s.2) ∧ u.cell? ⟨g, 0, none⟩ = some (.int .i64 y.1) ∧ u.cell? ⟨g, 1, none⟩ = some (.int .i64 y.2))) (by kernel_rfl) (show AnyS _ _ _ _ _ 9 _ _ _ from ?_)
        refine AnyS.take (i := 0) (v := .int .i64 (9 - (j : Int))) (T := fun _ => True) [] rfl (by kernel_rfl) (by kernel_rfl) (by kernel_rfl) (by kernel_rfl) (by kernel_rfl) (fun _ _ _ h => h) (fun L u q s => trivial) (fun L u s => OneS.less (by decide) s) (Or.inl ⟨by rfl, ?_⟩) (fun _ => ⟨cv0, cv1, cy0, cy1⟩) ?_
        · intro u hu
          clear hu
          go_simp
        try simp only [Act.put, List.setIfInBounds_toArray, List.set_cons_zero, List.set_cons_succ]
        refine AnyS.take (i := 1) (v := .int .i64 (2 * (9 - (j : Int)))) (T := fun _ => True) [] rfl (by kernel_rfl) (by kernel_rfl) (by kernel_rfl) (by kernel_rfl) (by kernel_rfl) (fun _ _ _ h => h) (fun L u q s => trivial) (fun L u s => OneS.less (by decide) s) (Or.inl ⟨by rfl, ?_⟩) (fun _ => ⟨cv0, cv1, cy0, cy1⟩) ?_
        · intro u hu
          clear hu
          go_simp
        try simp only [Act.put, List.setIfInBounds_toArray, List.set_cons_zero, List.set_cons_succ]
        refine AnyS.take (i := 2) (v := .int .i64 (2 * (9 - (j : Int)) + 1)) (T := fun _ => True) [] rfl (by kernel_rfl) (by kernel_rfl) (by kernel_rfl) (by kernel_rfl) (by kernel_rfl) (fun _ _ _ h => h) (fun L u q s => trivial) (fun L u s => OneS.less (by decide) s) (Or.inl ⟨by rfl, ?_⟩) (fun _ => ⟨cv0, cv1, cy0, cy1⟩) ?_
        · intro u hu
          clear hu
          go_simp
        try simp only [Act.put, List.setIfInBounds_toArray, List.set_cons_zero, List.set_cons_succ]
        refine AnyS.take (i := 4) (v := .agg #[.int .i64 y.1, .int .i64 y.2]) (T := fun u => u.cell? ⟨v, 0, none⟩ = some (.int .i64 s.1) ∧ u.cell? ⟨v, 1, none⟩ = some (.int .i64 s.2) ∧ u.cell? ⟨g, 0, none⟩ = some (.int .i64 y.1) ∧ u.cell? ⟨g, 1, none⟩ = some (.int .i64 y.2)) [6, 7, 8] rfl (by kernel_rfl) (by kernel_rfl) (by kernel_rfl) (by kernel_rfl) (by kernel_rfl) (fun _ _ _ h => h) (fun L u q s => s (q 8 (by simp))) (fun L u s => OneS.less (by decide) s) (Or.inl ⟨by rfl, ?_⟩) (fun _ => ⟨cv0, cv1, cy0, cy1⟩) ?_
        · intro u hu
          obtain ⟨u0, u1, u2, u3⟩ := hu
          go_simp
        try simp only [Act.put, List.setIfInBounds_toArray, List.set_cons_zero, List.set_cons_succ]
        refine AnyS.take (i := 5) (v := .agg #[.int .i64 s.1, .int .i64 s.2]) (T := fun u => u.cell? ⟨v, 0, none⟩ = some (.int .i64 s.1) ∧ u.cell? ⟨v, 1, none⟩ = some (.int .i64 s.2) ∧ u.cell? ⟨g, 0, none⟩ = some (.int .i64 y.1) ∧ u.cell? ⟨g, 1, none⟩ = some (.int .i64 y.2)) [6, 7, 8] rfl (by kernel_rfl) (by kernel_rfl) (by kernel_rfl) (by kernel_rfl) (by kernel_rfl) (fun _ _ _ h => h) (fun L u q s => s (q 8 (by simp))) (fun L u s => OneS.less (by decide) s) (Or.inl ⟨by rfl, ?_⟩) (fun _ => ⟨cv0, cv1, cy0, cy1⟩) ?_
        · intro u hu
          obtain ⟨u0, u1, u2, u3⟩ := hu
          go_simp
        try simp only [Act.put, List.setIfInBounds_toArray, List.set_cons_zero, List.set_cons_succ]
        refine AnyS.one (i := 3) (by kernel_rfl) (AnyS.comes rfl (fun K hK => ?_))
        go_simp
        refine (QU.out _).mono ?_
        rintro e w11 ⟨rfl, hb11⟩
        have hs11 : _ ≤ w11.heap.size := hb11.size
        try simp at hs11
        have o_h0_11 : Own w11 v 0 (.int .i64 s.1) := own_kept hb11 (own_drew v0)
        have o_h1_11 : Own w11 v 1 (.int .i64 s.2) := own_kept hb11 (own_drew v1)
        have o_h2_11 : Own w11 g 0 (.int .i64 y.1) := own_kept hb11 (own_drew y0)
        have o_h3_11 : Own w11 g 1 (.int .i64 y.2) := own_kept hb11 (own_drew y1)
        have o_x0_11 : Own w11 w.heap.size 0 (.int .i64 x.1) := own_kept hb11 (own_drew x0)
        have o_x1_11 : Own w11 w.heap.size 1 (.int .i64 x.2) := own_kept hb11 (own_drew x1)
        have o_r0_11 : Own w11 (w.heap.size + 1) 0 (.int .i64 0) := own_kept hb11 (own_drew r0)
        have o_r1_11 : Own w11 (w.heap.size + 1) 1 (.int .i64 0) := own_kept hb11 (own_drew r1)
        go_wp2_with fail
        refine hK.out _ _ (fun _ => ⟨o_h0_11.1, o_h1_11.1, o_h2_11.1, o_h3_11.1⟩) ?_
        clear hK K
        try simp only [Act.put, List.setIfInBounds_toArray, List.set_cons_zero, List.set_cons_succ]
        refine AnyS.one (i := 6) (by kernel_rfl) (AnyS.comes rfl (fun K hK => ?_))
        go_simp
        refine (M.out _).mono ?_
        rintro e w12 ⟨rfl, hb12⟩
        have hs12 : _ ≤ w12.heap.size := hb12.size
        try simp at hs12
        have o_h0_12 : Own w12 v 0 (.int .i64 s.1) := own_kept hb12 o_h0_11
        have o_h1_12 : Own w12 v 1 (.int .i64 s.2) := own_kept hb12 o_h1_11
        have o_h2_12 : Own w12 g 0 (.int .i64 y.1) := own_kept hb12 o_h2_11
        have o_h3_12 : Own w12 g 1 (.int .i64 y.2) := own_kept hb12 o_h3_11
        have o_x0_12 : Own w12 w.heap.size 0 (.int .i64 x.1) := own_kept hb12 o_x0_11
        have o_x1_12 : Own w12 w.heap.size 1 (.int .i64 x.2) := own_kept hb12 o_x1_11
        have o_r0_12 : Own w12 (w.heap.size + 1) 0 (.int .i64 0) := own_kept hb12 o_r0_11
        have o_r1_12 : Own w12 (w.heap.size + 1) 1 (.int .i64 0) := own_kept hb12 o_r1_11
        go_wp2_with fail
        refine hK.out _ _ (fun _ => ⟨o_h0_12.1, o_h1_12.1, o_h2_12.1, o_h3_12.1⟩) ?_
        clear hK K
        try simp only [Act.put, List.setIfInBounds_toArray, List.set_cons_zero, List.set_cons_succ]
        refine AnyS.one (i := 7) (by kernel_rfl) (AnyS.comes rfl (fun K hK => ?_))
        go_simp
        refine (B.out _).mono ?_
        rintro e w13 ⟨rfl, hb13⟩
        have hs13 : _ ≤ w13.heap.size := hb13.size
        try simp at hs13
        have o_h0_13 : Own w13 v 0 (.int .i64 s.1) := own_kept hb13 o_h0_12
        have o_h1_13 : Own w13 v 1 (.int .i64 s.2) := own_kept hb13 o_h1_12
        have o_h2_13 : Own w13 g 0 (.int .i64 y.1) := own_kept hb13 o_h2_12
        have o_h3_13 : Own w13 g 1 (.int .i64 y.2) := own_kept hb13 o_h3_12
        have o_x0_13 : Own w13 w.heap.size 0 (.int .i64 x.1) := own_kept hb13 o_x0_12
        have o_x1_13 : Own w13 w.heap.size 1 (.int .i64 x.2) := own_kept hb13 o_x1_12
        have o_r0_13 : Own w13 (w.heap.size + 1) 0 (.int .i64 0) := own_kept hb13 o_r0_12
        have o_r1_13 : Own w13 (w.heap.size + 1) 1 (.int .i64 0) := own_kept hb13 o_r1_12
        go_wp2_with fail
        refine hK.out _ _ (fun _ => ⟨o_h0_13.1, o_h1_13.1, o_h2_13.1, o_h3_13.1⟩) ?_
        clear hK K
        try simp only [Act.put, List.setIfInBounds_toArray, List.set_cons_zero, List.set_cons_succ]
        obtain ⟨ch0, fh0⟩ := id o_h0_13
        obtain ⟨ch1, fh1⟩ := id o_h1_13
        refine AnyS.one (i := 8) (by kernel_rfl) (AnyS.comes rfl (fun K hK => ?_))
        go_simp
        refine hK.out _ _ (fun h => absurd h (by decide)) ?_
        clear hK K
        try simp only [Act.put, List.setIfInBounds_toArray, List.set_cons_zero, List.set_cons_succ]
        refine AnyS.done (by kernel_rfl) ?_ _
        go_wp2
        go_roundw
        case rel => exact ⟨j + 1, by omega, by go_num, by rw [E.out]; exact own_next (by decide) (own_put o_h0_13), by rw [E.out]; exact own_put (own_next (by decide) o_h1_13), own_far (by dsimp only; omega) (own_far (by dsimp only; omega) o_h2_13), own_far (by dsimp only; omega) (own_far (by dsimp only; omega) o_h3_13), own_far (by dsimp only; omega) (own_far (by dsimp only; omega) o_x0_13), own_far (by dsimp only; omega) (own_far (by dsimp only; omega) o_x1_13), own_far (by dsimp only; omega) (own_far (by dsimp only; omega) o_r0_13), own_far (by dsimp only; omega) (own_far (by dsimp only; omega) o_r1_13), belB⟩
        case measure => first | (simp [intOf]; done) | (simp [intOf]; omega)
      · obtain rfl : j = 10 := by omega
        have lx1 : w.heap.size < wr.heap.size := World.block_lt_of_cell? _ _ cx0
        generalize atL y 10 = s at *
        go_wp2_with fail
        refine (MX.out _).mono ?_
        rintro e w31 ⟨rfl, hb31⟩
        have hs31 : _ ≤ w31.heap.size := hb31.size
        try simp at hs31
        have o_q310 : Own (w31) (w.heap.size + 1) 0 (.int .i64 0) := ownJ; have q310 := o_q310.1; have f_q310 := o_q310.2; have o_q311 : Own (w31) (w.heap.size + 1) 1 (.int .i64 0) := ownJ; have q311 := o_q311.1; have f_q311 := o_q311.2
        go_wp2_with fail
        refine (l06Tiny_any _).mono ?_
        rintro e w32 ⟨rfl, hb32⟩
        have hs32 : _ ≤ w32.heap.size := hb32.size
        try simp at hs32
        have o_q320 : Own (w32) (w.heap.size + 1) 0 (.int .i64 0) := ownJ; have q320 := o_q320.1; have f_q320 := o_q320.2; have o_q321 : Own (w32) (w.heap.size + 1) 1 (.int .i64 0) := ownJ; have q321 := o_q321.1; have f_q321 := o_q321.2
        go_wp2_with fail
        refine (AX.out _).mono ?_
        rintro e w33 ⟨rfl, hb33⟩
        have hs33 : _ ≤ w33.heap.size := hb33.size
        try simp at hs33
        have o_q330 : Own (w33) (w.heap.size + 1) 0 (.int .i64 0) := ownJ; have q330 := o_q330.1; have f_q330 := o_q330.2; have o_q331 : Own (w33) (w.heap.size + 1) 1 (.int .i64 0) := ownJ; have q331 := o_q331.1; have f_q331 := o_q331.2
        go_wp2
        exact bodyPost_ret (v := .agg #[.int .i64 (z).1, .int .i64 (z).2]) (by simp [results, Tryz.results141, go_sem, q330, q331]) rfl ⟨by rw [ES.out], belB⟩
end Go.Proofs.YtmikjgbojknlnaaGreatDoor
