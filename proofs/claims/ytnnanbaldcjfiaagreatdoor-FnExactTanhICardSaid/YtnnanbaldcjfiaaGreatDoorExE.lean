/- A contract of exponentials of numbers in the model. Conditions: numbers are int64. -/
import Derived.Test.YtnnanbaldcjfiaaGreatDoorExA
import Derived.Test.YtnnanbaldcjfiaaGreatDoorExB
import Derived.Test.YtnnanbaldcjfiaaGreatDoorFixF
import Derived.Test.YtnnanbaldcjfiaaGreatDoorIvM
import Derived.Test.YtnnanbaldcjfiaaGreatDoorIvN
import Derived.Test.YtnnanbaldcjfiaaGreatDoorIvW
import Derived.Test.YtnnanbaldcjfiaaGreatDoorIvX
import Derived.Test.YtnnanbaldcjfiaaGreatDoorIvLd
import Derived.LoopN
import Derived.Handy
import Derived.Deep.DeepCutAuto
import Derived.Deep.RegionHeld3
import Derived.Outline
namespace Go.Proofs.YtnnanbaldcjfiaaGreatDoor
open Go.ChangeShapes Go.WideShapes Go.ChangeAt Go.RowKit
set_option linter.unusedVariables false
set_option maxRecDepth 100000
set_option linter.unusedSimpArgs false
set_option maxHeartbeats 1000000
theorem sExpAt_no (n : Int) (h : ¬ InF n ∨ 85899345920 < n) (w : World) : Calls Tryz.prog 54 #[.int .i64 n] w fun e w' =>
    e = .returned (.agg #[.int .i64 (expF n).1, .int .i64 (expF n).2]) ∧ Below w.heap.size w w' := by
  have E := Lib.hid (expF_no h)
  by_cases f : InF n
  · have O := okF_yes f
    have k : decide (85899345920 < n) = true := decide_eq_true (by rcases h with h | h; exact absurd f h; exact h)
    clear h f
    generalize expF n = Y at *
    go_enter Tryz.func54, Tryz.ntmps54
    go_wp2_with fail
    refine (l03Ok_any n _).mono ?_
    rintro e w0 ⟨rfl, rfl⟩
    try rw [O]
    go_wp2_with fail
    refine (l04Whole_any _).mono ?_
    rintro e w1 ⟨rfl, hb1⟩
    have hs1 : _ ≤ w1.heap.size := hb1.size
    try simp at hs1
    have o_q10 : Own (w1) (w.heap.size) 0 (.int .i64 0) := ownJ; obtain ⟨q10, f_q10⟩ := o_q10; have o_q11 : Own (w1) (w.heap.size) 1 (.int .i64 0) := ownJ; obtain ⟨q11, f_q11⟩ := o_q11
    go_wp2
    exact bodyPost_ret (v := .agg #[.int .i64 (-1152921504606846976), .int .i64 1152921504606846976]) (by simp [results, Tryz.results54, go_sem, q10, q11]) rfl ⟨(by first | (rw [E.out]; done) | (rw [E.out]; rfl) | (simp [E.out]; done)), belB⟩
  · have O := okF_no f
    clear h f
    generalize expF n = Y at *
    go_enter Tryz.func54, Tryz.ntmps54
    go_wp2_with fail
    refine (l03Ok_any n _).mono ?_
    rintro e w0 ⟨rfl, rfl⟩
    try rw [O]
    go_wp2_with fail
    refine (l04Whole_any _).mono ?_
    rintro e w1 ⟨rfl, hb1⟩
    have hs1 : _ ≤ w1.heap.size := hb1.size
    try simp at hs1
    have o_q10 : Own (w1) (w.heap.size) 0 (.int .i64 0) := ownJ; obtain ⟨q10, f_q10⟩ := o_q10; have o_q11 : Own (w1) (w.heap.size) 1 (.int .i64 0) := ownJ; obtain ⟨q11, f_q11⟩ := o_q11
    go_wp2
    exact bodyPost_ret (v := .agg #[.int .i64 (-1152921504606846976), .int .i64 1152921504606846976]) (by simp [results, Tryz.results54, go_sem, q10, q11]) rfl ⟨(by first | (rw [E.out]; done) | (rw [E.out]; rfl) | (simp [E.out]; done)), belB⟩
theorem sExpAt_low (n : Int) (h : InF n) (k : n < -98784247808) (w : World) : Calls Tryz.prog 54 #[.int .i64 n] w fun e w' =>
    e = .returned (.agg #[.int .i64 (expF n).1, .int .i64 (expF n).2]) ∧ Below w.heap.size w w' := by
  have E := Lib.hid (expF_low h k)
  have O := okF_yes h
  have k0 : decide (85899345920 < n) = false := decide_eq_false (by omega)
  have k1 : decide (n < -98784247808) = true := decide_eq_true k
  clear h k
  generalize expF n = Y at *
  go_enter Tryz.func54, Tryz.ntmps54
  go_wp2_with fail
  refine (l03Ok_any n _).mono ?_
  rintro e w0 ⟨rfl, rfl⟩
  try rw [O]
  go_wp2
  exact bodyPost_ret (v := .agg #[.int .i64 0, .int .i64 1]) (by simp [results, Tryz.results54, go_sem, E.out]) rfl ⟨(by first | (rw [E.out]; done) | (rw [E.out]; rfl) | (simp [E.out]; done)), belB⟩
set_option maxHeartbeats 8000000 in
theorem sExpAt_yes (n : Int) (h : ExpN n) (w : World) : Calls Tryz.prog 54 #[.int .i64 n] w fun e w' =>
    e = .returned (.agg #[.int .i64 (expF n).1, .int .i64 (expF n).2]) ∧ Below w.heap.size w w' := by
  by_cases sg : (2 * n + 2977044472).tmod 5954088944 < 0
  · have KQ : (2 * n + 2977044472).tdiv 5954088944 - 1 = expK n := (expK_tdiv h).1 sg
    have SG : decide ((2 * n + 2977044472).tmod 5954088944 < 0) = true := decide_eq_true sg
    have KB := expK_in h
    have WQ : IntKind.i64.wrap ((2 * n + 2977044472).tdiv 5954088944) = (2 * n + 2977044472).tdiv 5954088944 := wrapS (by unfold In64; omega)
    have A := Lib.hid (fun w => l08At_any n w)
    have L := Lib.hid (fun w => sLogTwoI_any (expK n) w)
    have R := fun w => sSubI_any (n, n) (ln2 (expK n)) w
    rw [show subI (n, n) (ln2 (expK n)) = expR n from rfl] at R
    have R := Lib.hid R
    have E := Lib.hid (expF_yes h)
    have O := okF_yes (show InF n by unfold ExpN at h; unfold InF; omega)
    have k0 : decide (85899345920 < n) = false := decide_eq_false (by unfold ExpN at h; omega)
    have k1 : decide (n < -98784247808) = false := decide_eq_false (by unfold ExpN at h; omega)
    have b0 : -98784247808 ≤ n := h.1
    have b1 : n ≤ 85899345920 := h.2
    have FN : can (n, n) = (n, n) := make_one (by unfold FixN; omega)
    rw [FN] at A
    have O1 := Lib.hid (fun w => l08One_any w)
    have W1 := Lib.hid (fun w => l08Widen_any (expL (expR n) 9) (expL_res _ _) w)
    have SC := Lib.hid (fun w => l08Scale_any (expS (expR n)) (by have := res_in' (add_res (expL (expR n) 9) tin); unfold InI at this; unfold InF expS; omega) (expK n) (by omega) (by omega) w)
    rw [show addI (expL (expR n) 9) tin = expS (expR n) from rfl] at W1
    generalize expF n = Y at *
    generalize shfI (expS (expR n)) (expK n) = z at *
    generalize expS (expR n) = S at *
    have RO : Ok (expR n) := res_ok (sub_res _ _)
    generalize expR n = r at *
    generalize ln2 (expK n) = l at *
    generalize expK n = k at *
    clear h sg FN
    go_enter Tryz.func54, Tryz.ntmps54
    go_wp2_with fail
    refine (l03Ok_any n _).mono ?_
    rintro e w0 ⟨rfl, rfl⟩
    try rw [O]
    go_wp2_with fail
    refine (A.out _).mono ?_
    rintro e w1 ⟨rfl, hb1⟩
    have hs1 : _ ≤ w1.heap.size := hb1.size
    try simp at hs1
    have o_q10 : Own (w1) (w.heap.size) 0 (.int .i64 0) := ownJ; have q10 := o_q10.1; have f_q10 := o_q10.2; have o_q11 : Own (w1) (w.heap.size) 1 (.int .i64 0) := ownJ; have q11 := o_q11.1; have f_q11 := o_q11.2
    go_wp2_with fail
    try rw [KQ]
    refine (L.out _).mono ?_
    rintro e w2 ⟨rfl, hb2⟩
    have hs2 : _ ≤ w2.heap.size := hb2.size
    try simp at hs2
    have o_q20 : Own (w2) (w.heap.size) 0 (.int .i64 0) := ownJ; have q20 := o_q20.1; have f_q20 := o_q20.2; have o_q21 : Own (w2) (w.heap.size) 1 (.int .i64 0) := ownJ; have q21 := o_q21.1; have f_q21 := o_q21.2
    go_wp2_with fail
    refine (R.out _).mono ?_
    rintro e w3 ⟨rfl, hb3⟩
    have hs3 : _ ≤ w3.heap.size := hb3.size
    try simp at hs3
    have o_q30 : Own (w3) (w.heap.size) 0 (.int .i64 0) := ownJ; have q30 := o_q30.1; have f_q30 := o_q30.2; have o_q31 : Own (w3) (w.heap.size) 1 (.int .i64 0) := ownJ; have q31 := o_q31.1; have f_q31 := o_q31.2
    go_wp2_with fail
    refine (O1.out _).mono ?_
    rintro e w4 ⟨rfl, hb4⟩
    have hs4 : _ ≤ w4.heap.size := hb4.size
    try simp at hs4
    have o_q40 : Own (w4) (w.heap.size) 0 (.int .i64 0) := ownJ; have q40 := o_q40.1; have f_q40 := o_q40.2; have o_q41 : Own (w4) (w.heap.size) 1 (.int .i64 0) := ownJ; have q41 := o_q41.1; have f_q41 := o_q41.2
    have o_y40 : Own (w4) (w3.heap.size) 0 (.int .i64 r.1) := ownJ; have y40 := o_y40.1; have f_y40 := o_y40.2; have o_y41 : Own (w4) (w3.heap.size) 1 (.int .i64 r.2) := ownJ; have y41 := o_y41.1; have f_y41 := o_y41.2
    obtain ⟨g, hg'⟩ : ∃ g, g = w3.heap.size := ⟨_, rfl⟩
    obtain ⟨v, hv'⟩ : ∃ v, v = w4.heap.size := ⟨_, rfl⟩
    have n5 : w.heap.size < g := by rw [hg']; exact World.block_lt_of_cell? _ _ q30
    have ngv : g < v := by rw [hg', hv']; exact World.block_lt_of_cell? _ _ y40
    have HG := Lib.hid hg'
    have HV := Lib.hid hv'
    go_wp2_with fail
    rw [← hv', ← hg']
    clear hv' hg'
    go_loopw [6] (fun i wr => ∃ j : Nat, j ≤ 9 ∧ i = .int .i64 (9 - (j : Int)) ∧ Own wr v 0 (.int .i64 (expL r j).1) ∧ Own wr v 1 (.int .i64 (expL r j).2) ∧ Own wr g 0 (.int .i64 r.1) ∧ Own wr g 1 (.int .i64 r.2) ∧ Own wr w.heap.size 0 (.int .i64 0) ∧ Own wr w.heap.size 1 (.int .i64 0) ∧ Below w.heap.size w wr) (fun i _ => (intOf i).toNat)
    case atStart =>
      have hg' := HG.out
      have hv' := HV.out
      subst hv'
      subst hg'
      exact ⟨0, by omega, rfl, ⟨by simp [go_sem, expL], by simp [go_sem]⟩, ⟨by simp [go_sem, expL], by simp [go_sem]⟩, own_alloc o_y40, own_alloc o_y41, own_alloc o_q40, own_alloc o_q41, belB⟩
    case round =>
      obtain ⟨j, hj, rfl, v0, v1, y0, y1, r0, r1, hb⟩ := hrel
      have hsz := hb.size
      have lg : v < wr.heap.size := World.block_lt_of_cell? _ _ v0.1
      obtain ⟨cv0, fv0⟩ := id v0
      obtain ⟨cv1, fv1⟩ := id v1
      obtain ⟨cy0, fy0⟩ := id y0
      obtain ⟨cy1, fy1⟩ := id y1
      obtain ⟨cr0, fr0⟩ := id r0
      obtain ⟨cr1, fr1⟩ := id r1
      clear hb1 hb2 hb3 hb4 hs1 hs2 hs3 hs4 o_q10 o_q11 o_q20 o_q21 o_q30 o_q31 o_q40 o_q41 o_y40 o_y41 q10 q11 q20 q21 q30 q31 q40 q41 y40 y41 f_q10 f_q11 f_q20 f_q21 f_q30 f_q31 f_q40 f_q41 f_y40 f_y41
      by_cases k9 : j < 9
      · have K0 : decide (1 ≤ 9 - (j : Int)) = true := decide_eq_true (by omega)
        have MU := Lib.hid (fun w => sMulI_any r (expL r j) w)
        have IN := Lib.hid (fun w => sInteger_any (9 - (j : Int)) (by unfold In64; omega) w)
        have DV := Lib.hid (fun w => sDivI_any (mulI r (expL r j)) (intI (9 - (j : Int))) w)
        have AD := Lib.hid (fun w => sAddI_any (intI 1) (divI (mulI r (expL r j)) (intI (9 - (j : Int)))) w)
        have E := Lib.hid (show expL r (j + 1) = addI (intI 1) (divI (mulI r (expL r j)) (intI (9 - (j : Int)))) from rfl)
        generalize addI (intI 1) (divI (mulI r (expL r j)) (intI (9 - (j : Int)))) = t at *
        generalize divI (mulI r (expL r j)) (intI (9 - (j : Int))) = d at *
        generalize mulI r (expL r j) = m at *
        generalize intI (9 - (j : Int)) = ii at *
        generalize intI 1 = i1 at *
        generalize expL r j = s at *
        go_wp2_with fail
        refine AnyS.region (S := OneS 8 (fun u => u.cell? ⟨v, 0, none⟩ = some (.int .i64 s.1) ∧ u.cell? ⟨v, 1, none⟩ = some (.int .i64 s.2) ∧ u.cell? ⟨g, 0, none⟩ = some (.int .i64 r.1) ∧ u.cell? ⟨g, 1, none⟩ = some (.int .i64 r.2))) (by kernel_rfl) (show AnyS _ _ _ _ _ 9 _ _ _ from ?_)
        refine AnyS.take (i := 1) (v := .agg #[.int .i64 r.1, .int .i64 r.2]) (T := fun u => u.cell? ⟨v, 0, none⟩ = some (.int .i64 s.1) ∧ u.cell? ⟨v, 1, none⟩ = some (.int .i64 s.2) ∧ u.cell? ⟨g, 0, none⟩ = some (.int .i64 r.1) ∧ u.cell? ⟨g, 1, none⟩ = some (.int .i64 r.2)) [3, 6, 7, 8] rfl (by kernel_rfl) (by kernel_rfl) (by kernel_rfl) (by kernel_rfl) (by kernel_rfl) (fun _ _ _ h => h) (fun L u q s => s (q 8 (by simp))) (fun L u s => OneS.less (by decide) s) (Or.inl ⟨by rfl, ?_⟩) (fun _ => ⟨cv0, cv1, cy0, cy1⟩) ?_
        · intro u hu
          obtain ⟨u0, u1, u2, u3⟩ := hu
          go_simp
        try simp only [Act.put, List.setIfInBounds_toArray, List.set_cons_zero, List.set_cons_succ]
        refine AnyS.take (i := 2) (v := .agg #[.int .i64 s.1, .int .i64 s.2]) (T := fun u => u.cell? ⟨v, 0, none⟩ = some (.int .i64 s.1) ∧ u.cell? ⟨v, 1, none⟩ = some (.int .i64 s.2) ∧ u.cell? ⟨g, 0, none⟩ = some (.int .i64 r.1) ∧ u.cell? ⟨g, 1, none⟩ = some (.int .i64 r.2)) [3, 6, 7, 8] rfl (by kernel_rfl) (by kernel_rfl) (by kernel_rfl) (by kernel_rfl) (by kernel_rfl) (fun _ _ _ h => h) (fun L u q s => s (q 8 (by simp))) (fun L u s => OneS.less (by decide) s) (Or.inl ⟨by rfl, ?_⟩) (fun _ => ⟨cv0, cv1, cy0, cy1⟩) ?_
        · intro u hu
          obtain ⟨u0, u1, u2, u3⟩ := hu
          go_simp
        try simp only [Act.put, List.setIfInBounds_toArray, List.set_cons_zero, List.set_cons_succ]
        refine AnyS.take (i := 4) (v := .int .i64 (9 - (j : Int))) (T := fun _ => True) [] rfl (by kernel_rfl) (by kernel_rfl) (by kernel_rfl) (by kernel_rfl) (by kernel_rfl) (fun _ _ _ h => h) (fun L u q s => trivial) (fun L u s => OneS.less (by decide) s) (Or.inl ⟨by rfl, ?_⟩) (fun _ => ⟨cv0, cv1, cy0, cy1⟩) ?_
        · intro u hu
          clear hu
          go_simp
        try simp only [Act.put, List.setIfInBounds_toArray, List.set_cons_zero, List.set_cons_succ]
        refine AnyS.one (i := 0) (by kernel_rfl) (AnyS.comes rfl (fun K hK => ?_))
        go_simp
        refine (O1.out _).mono ?_
        rintro e w21 ⟨rfl, hb21⟩
        have hs21 : _ ≤ w21.heap.size := hb21.size
        try simp at hs21
        have o_h0_21 : Own w21 v 0 (.int .i64 s.1) := own_kept hb21 (own_drew v0)
        have o_h1_21 : Own w21 v 1 (.int .i64 s.2) := own_kept hb21 (own_drew v1)
        have o_h2_21 : Own w21 g 0 (.int .i64 r.1) := own_kept hb21 (own_drew y0)
        have o_h3_21 : Own w21 g 1 (.int .i64 r.2) := own_kept hb21 (own_drew y1)
        have o_r0_21 : Own w21 w.heap.size 0 (.int .i64 0) := own_kept hb21 (own_drew r0)
        have o_r1_21 : Own w21 w.heap.size 1 (.int .i64 0) := own_kept hb21 (own_drew r1)
        go_wp2_with fail
        refine hK.out _ _ (fun _ => ⟨o_h0_21.1, o_h1_21.1, o_h2_21.1, o_h3_21.1⟩) ?_
        clear hK K
        try simp only [Act.put, List.setIfInBounds_toArray, List.set_cons_zero, List.set_cons_succ]
        refine AnyS.one (i := 3) (by kernel_rfl) (AnyS.comes rfl (fun K hK => ?_))
        go_simp
        refine (MU.out _).mono ?_
        rintro e w22 ⟨rfl, hb22⟩
        have hs22 : _ ≤ w22.heap.size := hb22.size
        try simp at hs22
        have o_h0_22 : Own w22 v 0 (.int .i64 s.1) := own_kept hb22 o_h0_21
        have o_h1_22 : Own w22 v 1 (.int .i64 s.2) := own_kept hb22 o_h1_21
        have o_h2_22 : Own w22 g 0 (.int .i64 r.1) := own_kept hb22 o_h2_21
        have o_h3_22 : Own w22 g 1 (.int .i64 r.2) := own_kept hb22 o_h3_21
        have o_r0_22 : Own w22 w.heap.size 0 (.int .i64 0) := own_kept hb22 o_r0_21
        have o_r1_22 : Own w22 w.heap.size 1 (.int .i64 0) := own_kept hb22 o_r1_21
        go_wp2_with fail
        refine hK.out _ _ (fun _ => ⟨o_h0_22.1, o_h1_22.1, o_h2_22.1, o_h3_22.1⟩) ?_
        clear hK K
        try simp only [Act.put, List.setIfInBounds_toArray, List.set_cons_zero, List.set_cons_succ]
        refine AnyS.one (i := 5) (by kernel_rfl) (AnyS.comes rfl (fun K hK => ?_))
        go_simp
        refine (IN.out _).mono ?_
        rintro e w23 ⟨rfl, hb23⟩
        have hs23 : _ ≤ w23.heap.size := hb23.size
        try simp at hs23
        have o_h0_23 : Own w23 v 0 (.int .i64 s.1) := own_kept hb23 o_h0_22
        have o_h1_23 : Own w23 v 1 (.int .i64 s.2) := own_kept hb23 o_h1_22
        have o_h2_23 : Own w23 g 0 (.int .i64 r.1) := own_kept hb23 o_h2_22
        have o_h3_23 : Own w23 g 1 (.int .i64 r.2) := own_kept hb23 o_h3_22
        have o_r0_23 : Own w23 w.heap.size 0 (.int .i64 0) := own_kept hb23 o_r0_22
        have o_r1_23 : Own w23 w.heap.size 1 (.int .i64 0) := own_kept hb23 o_r1_22
        go_wp2_with fail
        refine hK.out _ _ (fun _ => ⟨o_h0_23.1, o_h1_23.1, o_h2_23.1, o_h3_23.1⟩) ?_
        clear hK K
        try simp only [Act.put, List.setIfInBounds_toArray, List.set_cons_zero, List.set_cons_succ]
        refine AnyS.one (i := 6) (by kernel_rfl) (AnyS.comes rfl (fun K hK => ?_))
        go_simp
        refine (DV.out _).mono ?_
        rintro e w24 ⟨rfl, hb24⟩
        have hs24 : _ ≤ w24.heap.size := hb24.size
        try simp at hs24
        have o_h0_24 : Own w24 v 0 (.int .i64 s.1) := own_kept hb24 o_h0_23
        have o_h1_24 : Own w24 v 1 (.int .i64 s.2) := own_kept hb24 o_h1_23
        have o_h2_24 : Own w24 g 0 (.int .i64 r.1) := own_kept hb24 o_h2_23
        have o_h3_24 : Own w24 g 1 (.int .i64 r.2) := own_kept hb24 o_h3_23
        have o_r0_24 : Own w24 w.heap.size 0 (.int .i64 0) := own_kept hb24 o_r0_23
        have o_r1_24 : Own w24 w.heap.size 1 (.int .i64 0) := own_kept hb24 o_r1_23
        go_wp2_with fail
        refine hK.out _ _ (fun _ => ⟨o_h0_24.1, o_h1_24.1, o_h2_24.1, o_h3_24.1⟩) ?_
        clear hK K
        try simp only [Act.put, List.setIfInBounds_toArray, List.set_cons_zero, List.set_cons_succ]
        refine AnyS.one (i := 7) (by kernel_rfl) (AnyS.comes rfl (fun K hK => ?_))
        go_simp
        refine (AD.out _).mono ?_
        rintro e w25 ⟨rfl, hb25⟩
        have hs25 : _ ≤ w25.heap.size := hb25.size
        try simp at hs25
        have o_h0_25 : Own w25 v 0 (.int .i64 s.1) := own_kept hb25 o_h0_24
        have o_h1_25 : Own w25 v 1 (.int .i64 s.2) := own_kept hb25 o_h1_24
        have o_h2_25 : Own w25 g 0 (.int .i64 r.1) := own_kept hb25 o_h2_24
        have o_h3_25 : Own w25 g 1 (.int .i64 r.2) := own_kept hb25 o_h3_24
        have o_r0_25 : Own w25 w.heap.size 0 (.int .i64 0) := own_kept hb25 o_r0_24
        have o_r1_25 : Own w25 w.heap.size 1 (.int .i64 0) := own_kept hb25 o_r1_24
        go_wp2_with fail
        refine hK.out _ _ (fun _ => ⟨o_h0_25.1, o_h1_25.1, o_h2_25.1, o_h3_25.1⟩) ?_
        clear hK K
        try simp only [Act.put, List.setIfInBounds_toArray, List.set_cons_zero, List.set_cons_succ]
        obtain ⟨ch0, fh0⟩ := id o_h0_25
        obtain ⟨ch1, fh1⟩ := id o_h1_25
        refine AnyS.one (i := 8) (by kernel_rfl) (AnyS.comes rfl (fun K hK => ?_))
        go_simp
        refine hK.out _ _ (fun h => absurd h (by decide)) ?_
        clear hK K
        try simp only [Act.put, List.setIfInBounds_toArray, List.set_cons_zero, List.set_cons_succ]
        refine AnyS.done (by kernel_rfl) ?_ _
        go_wp2
        go_roundw
        case rel => exact ⟨j + 1, by omega, by go_num, by rw [E.out]; exact own_next (by decide) (own_put o_h0_25), by rw [E.out]; exact own_put (own_next (by decide) o_h1_25), own_far (by dsimp only; omega) (own_far (by dsimp only; omega) o_h2_25), own_far (by dsimp only; omega) (own_far (by dsimp only; omega) o_h3_25), own_far (by dsimp only; omega) (own_far (by dsimp only; omega) o_r0_25), own_far (by dsimp only; omega) (own_far (by dsimp only; omega) o_r1_25), belB⟩
        case measure => first | (simp [intOf]; done) | (simp [intOf]; omega)
      · obtain rfl : j = 9 := by omega
        have K0 : decide (1 ≤ 9 - ((9 : Nat) : Int)) = false := by decide
        generalize expL r 9 = s at *
        go_wp2_with fail
        refine (W1.out _).mono ?_
        rintro e w31 ⟨rfl, hb31⟩
        have hs31 : _ ≤ w31.heap.size := hb31.size
        try simp at hs31
        have o_q310 : Own (w31) (w.heap.size) 0 (.int .i64 0) := ownJ; have q310 := o_q310.1; have f_q310 := o_q310.2; have o_q311 : Own (w31) (w.heap.size) 1 (.int .i64 0) := ownJ; have q311 := o_q311.1; have f_q311 := o_q311.2
        go_wp2_with fail
        refine (SC.out _).mono ?_
        rintro e w32 ⟨rfl, hb32⟩
        have hs32 : _ ≤ w32.heap.size := hb32.size
        try simp at hs32
        have o_q320 : Own (w32) (w.heap.size) 0 (.int .i64 0) := ownJ; obtain ⟨q320, f_q320⟩ := o_q320; have o_q321 : Own (w32) (w.heap.size) 1 (.int .i64 0) := ownJ; obtain ⟨q321, f_q321⟩ := o_q321
        go_wp2
        exact bodyPost_ret (v := .agg #[.int .i64 (z).1, .int .i64 (z).2]) (by simp [results, Tryz.results54, go_sem, q320, q321]) rfl ⟨by rw [E.out], belB⟩
  · have KQ : (2 * n + 2977044472).tdiv 5954088944 = expK n := (expK_tdiv h).2 sg
    have SG : decide ((2 * n + 2977044472).tmod 5954088944 < 0) = false := decide_eq_false sg
    have KB := expK_in h
    have WQ : IntKind.i64.wrap ((2 * n + 2977044472).tdiv 5954088944) = (2 * n + 2977044472).tdiv 5954088944 := wrapS (by unfold In64; omega)
    have A := Lib.hid (fun w => l08At_any n w)
    have L := Lib.hid (fun w => sLogTwoI_any (expK n) w)
    have R := fun w => sSubI_any (n, n) (ln2 (expK n)) w
    rw [show subI (n, n) (ln2 (expK n)) = expR n from rfl] at R
    have R := Lib.hid R
    have E := Lib.hid (expF_yes h)
    have O := okF_yes (show InF n by unfold ExpN at h; unfold InF; omega)
    have k0 : decide (85899345920 < n) = false := decide_eq_false (by unfold ExpN at h; omega)
    have k1 : decide (n < -98784247808) = false := decide_eq_false (by unfold ExpN at h; omega)
    have b0 : -98784247808 ≤ n := h.1
    have b1 : n ≤ 85899345920 := h.2
    have FN : can (n, n) = (n, n) := make_one (by unfold FixN; omega)
    rw [FN] at A
    have O1 := Lib.hid (fun w => l08One_any w)
    have W1 := Lib.hid (fun w => l08Widen_any (expL (expR n) 9) (expL_res _ _) w)
    have SC := Lib.hid (fun w => l08Scale_any (expS (expR n)) (by have := res_in' (add_res (expL (expR n) 9) tin); unfold InI at this; unfold InF expS; omega) (expK n) (by omega) (by omega) w)
    rw [show addI (expL (expR n) 9) tin = expS (expR n) from rfl] at W1
    generalize expF n = Y at *
    generalize shfI (expS (expR n)) (expK n) = z at *
    generalize expS (expR n) = S at *
    have RO : Ok (expR n) := res_ok (sub_res _ _)
    generalize expR n = r at *
    generalize ln2 (expK n) = l at *
    generalize expK n = k at *
    clear h sg FN
    go_enter Tryz.func54, Tryz.ntmps54
    go_wp2_with fail
    refine (l03Ok_any n _).mono ?_
    rintro e w0 ⟨rfl, rfl⟩
    try rw [O]
    go_wp2_with fail
    refine (A.out _).mono ?_
    rintro e w1 ⟨rfl, hb1⟩
    have hs1 : _ ≤ w1.heap.size := hb1.size
    try simp at hs1
    have o_q10 : Own (w1) (w.heap.size) 0 (.int .i64 0) := ownJ; have q10 := o_q10.1; have f_q10 := o_q10.2; have o_q11 : Own (w1) (w.heap.size) 1 (.int .i64 0) := ownJ; have q11 := o_q11.1; have f_q11 := o_q11.2
    go_wp2_with fail
    try rw [KQ]
    refine (L.out _).mono ?_
    rintro e w2 ⟨rfl, hb2⟩
    have hs2 : _ ≤ w2.heap.size := hb2.size
    try simp at hs2
    have o_q20 : Own (w2) (w.heap.size) 0 (.int .i64 0) := ownJ; have q20 := o_q20.1; have f_q20 := o_q20.2; have o_q21 : Own (w2) (w.heap.size) 1 (.int .i64 0) := ownJ; have q21 := o_q21.1; have f_q21 := o_q21.2
    go_wp2_with fail
    refine (R.out _).mono ?_
    rintro e w3 ⟨rfl, hb3⟩
    have hs3 : _ ≤ w3.heap.size := hb3.size
    try simp at hs3
    have o_q30 : Own (w3) (w.heap.size) 0 (.int .i64 0) := ownJ; have q30 := o_q30.1; have f_q30 := o_q30.2; have o_q31 : Own (w3) (w.heap.size) 1 (.int .i64 0) := ownJ; have q31 := o_q31.1; have f_q31 := o_q31.2
    go_wp2_with fail
    refine (O1.out _).mono ?_
    rintro e w4 ⟨rfl, hb4⟩
    have hs4 : _ ≤ w4.heap.size := hb4.size
    try simp at hs4
    have o_q40 : Own (w4) (w.heap.size) 0 (.int .i64 0) := ownJ; have q40 := o_q40.1; have f_q40 := o_q40.2; have o_q41 : Own (w4) (w.heap.size) 1 (.int .i64 0) := ownJ; have q41 := o_q41.1; have f_q41 := o_q41.2
    have o_y40 : Own (w4) (w3.heap.size) 0 (.int .i64 r.1) := ownJ; have y40 := o_y40.1; have f_y40 := o_y40.2; have o_y41 : Own (w4) (w3.heap.size) 1 (.int .i64 r.2) := ownJ; have y41 := o_y41.1; have f_y41 := o_y41.2
    obtain ⟨g, hg'⟩ : ∃ g, g = w3.heap.size := ⟨_, rfl⟩
    obtain ⟨v, hv'⟩ : ∃ v, v = w4.heap.size := ⟨_, rfl⟩
    have n5 : w.heap.size < g := by rw [hg']; exact World.block_lt_of_cell? _ _ q30
    have ngv : g < v := by rw [hg', hv']; exact World.block_lt_of_cell? _ _ y40
    have HG := Lib.hid hg'
    have HV := Lib.hid hv'
    go_wp2_with fail
    rw [← hv', ← hg']
    clear hv' hg'
    go_loopw [6] (fun i wr => ∃ j : Nat, j ≤ 9 ∧ i = .int .i64 (9 - (j : Int)) ∧ Own wr v 0 (.int .i64 (expL r j).1) ∧ Own wr v 1 (.int .i64 (expL r j).2) ∧ Own wr g 0 (.int .i64 r.1) ∧ Own wr g 1 (.int .i64 r.2) ∧ Own wr w.heap.size 0 (.int .i64 0) ∧ Own wr w.heap.size 1 (.int .i64 0) ∧ Below w.heap.size w wr) (fun i _ => (intOf i).toNat)
    case atStart =>
      have hg' := HG.out
      have hv' := HV.out
      subst hv'
      subst hg'
      exact ⟨0, by omega, rfl, ⟨by simp [go_sem, expL], by simp [go_sem]⟩, ⟨by simp [go_sem, expL], by simp [go_sem]⟩, own_alloc o_y40, own_alloc o_y41, own_alloc o_q40, own_alloc o_q41, belB⟩
    case round =>
      obtain ⟨j, hj, rfl, v0, v1, y0, y1, r0, r1, hb⟩ := hrel
      have hsz := hb.size
      have lg : v < wr.heap.size := World.block_lt_of_cell? _ _ v0.1
      obtain ⟨cv0, fv0⟩ := id v0
      obtain ⟨cv1, fv1⟩ := id v1
      obtain ⟨cy0, fy0⟩ := id y0
      obtain ⟨cy1, fy1⟩ := id y1
      obtain ⟨cr0, fr0⟩ := id r0
      obtain ⟨cr1, fr1⟩ := id r1
      clear hb1 hb2 hb3 hb4 hs1 hs2 hs3 hs4 o_q10 o_q11 o_q20 o_q21 o_q30 o_q31 o_q40 o_q41 o_y40 o_y41 q10 q11 q20 q21 q30 q31 q40 q41 y40 y41 f_q10 f_q11 f_q20 f_q21 f_q30 f_q31 f_q40 f_q41 f_y40 f_y41
      by_cases k9 : j < 9
      · have K0 : decide (1 ≤ 9 - (j : Int)) = true := decide_eq_true (by omega)
        have MU := Lib.hid (fun w => sMulI_any r (expL r j) w)
        have IN := Lib.hid (fun w => sInteger_any (9 - (j : Int)) (by unfold In64; omega) w)
        have DV := Lib.hid (fun w => sDivI_any (mulI r (expL r j)) (intI (9 - (j : Int))) w)
        have AD := Lib.hid (fun w => sAddI_any (intI 1) (divI (mulI r (expL r j)) (intI (9 - (j : Int)))) w)
        have E := Lib.hid (show expL r (j + 1) = addI (intI 1) (divI (mulI r (expL r j)) (intI (9 - (j : Int)))) from rfl)
        generalize addI (intI 1) (divI (mulI r (expL r j)) (intI (9 - (j : Int)))) = t at *
        generalize divI (mulI r (expL r j)) (intI (9 - (j : Int))) = d at *
        generalize mulI r (expL r j) = m at *
        generalize intI (9 - (j : Int)) = ii at *
        generalize intI 1 = i1 at *
        generalize expL r j = s at *
        go_wp2_with fail
        refine AnyS.region (S := OneS 8 (fun u => u.cell? ⟨v, 0, none⟩ = some (.int .i64 s.1) ∧ u.cell? ⟨v, 1, none⟩ = some (.int .i64 s.2) ∧ u.cell? ⟨g, 0, none⟩ = some (.int .i64 r.1) ∧ u.cell? ⟨g, 1, none⟩ = some (.int .i64 r.2))) (by kernel_rfl) (show AnyS _ _ _ _ _ 9 _ _ _ from ?_)
        refine AnyS.take (i := 1) (v := .agg #[.int .i64 r.1, .int .i64 r.2]) (T := fun u => u.cell? ⟨v, 0, none⟩ = some (.int .i64 s.1) ∧ u.cell? ⟨v, 1, none⟩ = some (.int .i64 s.2) ∧ u.cell? ⟨g, 0, none⟩ = some (.int .i64 r.1) ∧ u.cell? ⟨g, 1, none⟩ = some (.int .i64 r.2)) [3, 6, 7, 8] rfl (by kernel_rfl) (by kernel_rfl) (by kernel_rfl) (by kernel_rfl) (by kernel_rfl) (fun _ _ _ h => h) (fun L u q s => s (q 8 (by simp))) (fun L u s => OneS.less (by decide) s) (Or.inl ⟨by rfl, ?_⟩) (fun _ => ⟨cv0, cv1, cy0, cy1⟩) ?_
        · intro u hu
          obtain ⟨u0, u1, u2, u3⟩ := hu
          go_simp
        try simp only [Act.put, List.setIfInBounds_toArray, List.set_cons_zero, List.set_cons_succ]
        refine AnyS.take (i := 2) (v := .agg #[.int .i64 s.1, .int .i64 s.2]) (T := fun u => u.cell? ⟨v, 0, none⟩ = some (.int .i64 s.1) ∧ u.cell? ⟨v, 1, none⟩ = some (.int .i64 s.2) ∧ u.cell? ⟨g, 0, none⟩ = some (.int .i64 r.1) ∧ u.cell? ⟨g, 1, none⟩ = some (.int .i64 r.2)) [3, 6, 7, 8] rfl (by kernel_rfl) (by kernel_rfl) (by kernel_rfl) (by kernel_rfl) (by kernel_rfl) (fun _ _ _ h => h) (fun L u q s => s (q 8 (by simp))) (fun L u s => OneS.less (by decide) s) (Or.inl ⟨by rfl, ?_⟩) (fun _ => ⟨cv0, cv1, cy0, cy1⟩) ?_
        · intro u hu
          obtain ⟨u0, u1, u2, u3⟩ := hu
          go_simp
        try simp only [Act.put, List.setIfInBounds_toArray, List.set_cons_zero, List.set_cons_succ]
        refine AnyS.take (i := 4) (v := .int .i64 (9 - (j : Int))) (T := fun _ => True) [] rfl (by kernel_rfl) (by kernel_rfl) (by kernel_rfl) (by kernel_rfl) (by kernel_rfl) (fun _ _ _ h => h) (fun L u q s => trivial) (fun L u s => OneS.less (by decide) s) (Or.inl ⟨by rfl, ?_⟩) (fun _ => ⟨cv0, cv1, cy0, cy1⟩) ?_
        · intro u hu
          clear hu
          go_simp
        try simp only [Act.put, List.setIfInBounds_toArray, List.set_cons_zero, List.set_cons_succ]
        refine AnyS.one (i := 0) (by kernel_rfl) (AnyS.comes rfl (fun K hK => ?_))
        go_simp
        refine (O1.out _).mono ?_
        rintro e w21 ⟨rfl, hb21⟩
        have hs21 : _ ≤ w21.heap.size := hb21.size
        try simp at hs21
        have o_h0_21 : Own w21 v 0 (.int .i64 s.1) := own_kept hb21 (own_drew v0)
        have o_h1_21 : Own w21 v 1 (.int .i64 s.2) := own_kept hb21 (own_drew v1)
        have o_h2_21 : Own w21 g 0 (.int .i64 r.1) := own_kept hb21 (own_drew y0)
        have o_h3_21 : Own w21 g 1 (.int .i64 r.2) := own_kept hb21 (own_drew y1)
        have o_r0_21 : Own w21 w.heap.size 0 (.int .i64 0) := own_kept hb21 (own_drew r0)
        have o_r1_21 : Own w21 w.heap.size 1 (.int .i64 0) := own_kept hb21 (own_drew r1)
        go_wp2_with fail
        refine hK.out _ _ (fun _ => ⟨o_h0_21.1, o_h1_21.1, o_h2_21.1, o_h3_21.1⟩) ?_
        clear hK K
        try simp only [Act.put, List.setIfInBounds_toArray, List.set_cons_zero, List.set_cons_succ]
        refine AnyS.one (i := 3) (by kernel_rfl) (AnyS.comes rfl (fun K hK => ?_))
        go_simp
        refine (MU.out _).mono ?_
        rintro e w22 ⟨rfl, hb22⟩
        have hs22 : _ ≤ w22.heap.size := hb22.size
        try simp at hs22
        have o_h0_22 : Own w22 v 0 (.int .i64 s.1) := own_kept hb22 o_h0_21
        have o_h1_22 : Own w22 v 1 (.int .i64 s.2) := own_kept hb22 o_h1_21
        have o_h2_22 : Own w22 g 0 (.int .i64 r.1) := own_kept hb22 o_h2_21
        have o_h3_22 : Own w22 g 1 (.int .i64 r.2) := own_kept hb22 o_h3_21
        have o_r0_22 : Own w22 w.heap.size 0 (.int .i64 0) := own_kept hb22 o_r0_21
        have o_r1_22 : Own w22 w.heap.size 1 (.int .i64 0) := own_kept hb22 o_r1_21
        go_wp2_with fail
        refine hK.out _ _ (fun _ => ⟨o_h0_22.1, o_h1_22.1, o_h2_22.1, o_h3_22.1⟩) ?_
        clear hK K
        try simp only [Act.put, List.setIfInBounds_toArray, List.set_cons_zero, List.set_cons_succ]
        refine AnyS.one (i := 5) (by kernel_rfl) (AnyS.comes rfl (fun K hK => ?_))
        go_simp
        refine (IN.out _).mono ?_
        rintro e w23 ⟨rfl, hb23⟩
        have hs23 : _ ≤ w23.heap.size := hb23.size
        try simp at hs23
        have o_h0_23 : Own w23 v 0 (.int .i64 s.1) := own_kept hb23 o_h0_22
        have o_h1_23 : Own w23 v 1 (.int .i64 s.2) := own_kept hb23 o_h1_22
        have o_h2_23 : Own w23 g 0 (.int .i64 r.1) := own_kept hb23 o_h2_22
        have o_h3_23 : Own w23 g 1 (.int .i64 r.2) := own_kept hb23 o_h3_22
        have o_r0_23 : Own w23 w.heap.size 0 (.int .i64 0) := own_kept hb23 o_r0_22
        have o_r1_23 : Own w23 w.heap.size 1 (.int .i64 0) := own_kept hb23 o_r1_22
        go_wp2_with fail
        refine hK.out _ _ (fun _ => ⟨o_h0_23.1, o_h1_23.1, o_h2_23.1, o_h3_23.1⟩) ?_
        clear hK K
        try simp only [Act.put, List.setIfInBounds_toArray, List.set_cons_zero, List.set_cons_succ]
        refine AnyS.one (i := 6) (by kernel_rfl) (AnyS.comes rfl (fun K hK => ?_))
        go_simp
        refine (DV.out _).mono ?_
        rintro e w24 ⟨rfl, hb24⟩
        have hs24 : _ ≤ w24.heap.size := hb24.size
        try simp at hs24
        have o_h0_24 : Own w24 v 0 (.int .i64 s.1) := own_kept hb24 o_h0_23
        have o_h1_24 : Own w24 v 1 (.int .i64 s.2) := own_kept hb24 o_h1_23
        have o_h2_24 : Own w24 g 0 (.int .i64 r.1) := own_kept hb24 o_h2_23
        have o_h3_24 : Own w24 g 1 (.int .i64 r.2) := own_kept hb24 o_h3_23
        have o_r0_24 : Own w24 w.heap.size 0 (.int .i64 0) := own_kept hb24 o_r0_23
        have o_r1_24 : Own w24 w.heap.size 1 (.int .i64 0) := own_kept hb24 o_r1_23
        go_wp2_with fail
        refine hK.out _ _ (fun _ => ⟨o_h0_24.1, o_h1_24.1, o_h2_24.1, o_h3_24.1⟩) ?_
        clear hK K
        try simp only [Act.put, List.setIfInBounds_toArray, List.set_cons_zero, List.set_cons_succ]
        refine AnyS.one (i := 7) (by kernel_rfl) (AnyS.comes rfl (fun K hK => ?_))
        go_simp
        refine (AD.out _).mono ?_
        rintro e w25 ⟨rfl, hb25⟩
        have hs25 : _ ≤ w25.heap.size := hb25.size
        try simp at hs25
        have o_h0_25 : Own w25 v 0 (.int .i64 s.1) := own_kept hb25 o_h0_24
        have o_h1_25 : Own w25 v 1 (.int .i64 s.2) := own_kept hb25 o_h1_24
        have o_h2_25 : Own w25 g 0 (.int .i64 r.1) := own_kept hb25 o_h2_24
        have o_h3_25 : Own w25 g 1 (.int .i64 r.2) := own_kept hb25 o_h3_24
        have o_r0_25 : Own w25 w.heap.size 0 (.int .i64 0) := own_kept hb25 o_r0_24
        have o_r1_25 : Own w25 w.heap.size 1 (.int .i64 0) := own_kept hb25 o_r1_24
        go_wp2_with fail
        refine hK.out _ _ (fun _ => ⟨o_h0_25.1, o_h1_25.1, o_h2_25.1, o_h3_25.1⟩) ?_
        clear hK K
        try simp only [Act.put, List.setIfInBounds_toArray, List.set_cons_zero, List.set_cons_succ]
        obtain ⟨ch0, fh0⟩ := id o_h0_25
        obtain ⟨ch1, fh1⟩ := id o_h1_25
        refine AnyS.one (i := 8) (by kernel_rfl) (AnyS.comes rfl (fun K hK => ?_))
        go_simp
        refine hK.out _ _ (fun h => absurd h (by decide)) ?_
        clear hK K
        try simp only [Act.put, List.setIfInBounds_toArray, List.set_cons_zero, List.set_cons_succ]
        refine AnyS.done (by kernel_rfl) ?_ _
        go_wp2
        go_roundw
        case rel => exact ⟨j + 1, by omega, by go_num, by rw [E.out]; exact own_next (by decide) (own_put o_h0_25), by rw [E.out]; exact own_put (own_next (by decide) o_h1_25), own_far (by dsimp only; omega) (own_far (by dsimp only; omega) o_h2_25), own_far (by dsimp only; omega) (own_far (by dsimp only; omega) o_h3_25), own_far (by dsimp only; omega) (own_far (by dsimp only; omega) o_r0_25), own_far (by dsimp only; omega) (own_far (by dsimp only; omega) o_r1_25), belB⟩
        case measure => first | (simp [intOf]; done) | (simp [intOf]; omega)
      · obtain rfl : j = 9 := by omega
        have K0 : decide (1 ≤ 9 - ((9 : Nat) : Int)) = false := by decide
        generalize expL r 9 = s at *
        go_wp2_with fail
        refine (W1.out _).mono ?_
        rintro e w31 ⟨rfl, hb31⟩
        have hs31 : _ ≤ w31.heap.size := hb31.size
        try simp at hs31
        have o_q310 : Own (w31) (w.heap.size) 0 (.int .i64 0) := ownJ; have q310 := o_q310.1; have f_q310 := o_q310.2; have o_q311 : Own (w31) (w.heap.size) 1 (.int .i64 0) := ownJ; have q311 := o_q311.1; have f_q311 := o_q311.2
        go_wp2_with fail
        refine (SC.out _).mono ?_
        rintro e w32 ⟨rfl, hb32⟩
        have hs32 : _ ≤ w32.heap.size := hb32.size
        try simp at hs32
        have o_q320 : Own (w32) (w.heap.size) 0 (.int .i64 0) := ownJ; obtain ⟨q320, f_q320⟩ := o_q320; have o_q321 : Own (w32) (w.heap.size) 1 (.int .i64 0) := ownJ; obtain ⟨q321, f_q321⟩ := o_q321
        go_wp2
        exact bodyPost_ret (v := .agg #[.int .i64 (z).1, .int .i64 (z).2]) (by simp [results, Tryz.results54, go_sem, q320, q321]) rfl ⟨by rw [E.out], belB⟩
theorem sExpAt_any (n : Int) (w : World) : Calls Tryz.prog 54 #[.int .i64 n] w fun e w' =>
    e = .returned (.agg #[.int .i64 (expF n).1, .int .i64 (expF n).2]) ∧ Below w.heap.size w w' := by
  by_cases h : ExpN n
  · exact sExpAt_yes n h w
  · by_cases k : InF n ∧ n < -98784247808
    · exact sExpAt_low n k.1 k.2 w
    · refine sExpAt_no n ?_ w
      unfold ExpN at h
      by_cases f : InF n
      · right; have : ¬ n < -98784247808 := fun c => k ⟨f, c⟩; omega
      · exact .inl f
end Go.Proofs.YtnnanbaldcjfiaaGreatDoor
