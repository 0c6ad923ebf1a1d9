/- The law of the ways to pi: at every input that can be read as data the call returns true. No conditions. -/
import Derived.Test.YtnnanbaldcjfiaaDrawC
import Derived.Test.YtnnanbaldcjfiaaArH
import Derived.Test.YtnnanbaldcjfiaaTrA
import Derived.Test.YtnnanbaldcjfiaaIvV
import Derived.Test.YtnnanbaldcjfiaaIvZo
import Derived.Test.YtnnanbaldcjfiaaMinMax
import Derived.Deep.RegionHeld3
import Derived.Outline
namespace Go.Proofs.Ytnnanbaldcjfiaa
open Go.ChangeShapes Go.WideShapes Go.ChangeAt Go.RowKit
set_option linter.unusedVariables false
set_option maxRecDepth 100000
set_option linter.unusedSimpArgs false
set_option maxHeartbeats 1000000
set_option maxHeartbeats 8000000 in
theorem law_FnPi (p : Option Addr) (n cp : Nat) (w : World) (hp : BytesAt w w.heap.size p n) : Calls Try.prog 11 #[.slice p n cp] w fun e w' =>
    e = .returned (.bool true) ∧ Below w.heap.size w w' := by
  have np := hp.big
  by_cases long : 1048576 < n
  · have l : (1048576 : Int) < n := by omega
    go_enter Try.func11, Try.ntmps11
    go_wp2
    go_ret
    exact ⟨rfl, belB⟩
  · have l : (n : Int) ≤ 1048576 := by omega
    go_enter Try.func11, Try.ntmps11
    go_wp2_with fail
    refine (d8At_any p n cp 0 (by omega) 40 (by unfold In64; omega) _ _ hp).mono ?_
    rintro e w1 ⟨t, rfl, ⟨t0, t1, t2⟩, hw⟩
    subst w1
    have t3 := t2 (by omega)
    clear t1 t2
    go_wp2_with fail
    refine (d8At_any p n cp 1 (by omega) 4000 (by unfold In64; omega) _ _ hp).mono ?_
    rintro e w1 ⟨j, rfl, ⟨j0, j1, j2⟩, hw⟩
    subst w1
    have j3 := j2 (by omega)
    clear j1 j2
    go_wp2_with fail
    refine (d8At_any p n cp 3 (by omega) 4000 (by unfold In64; omega) _ _ hp).mono ?_
    rintro e w1 ⟨k, rfl, ⟨k0, k1, k2⟩, hw⟩
    subst w1
    have k3 := k2 (by omega)
    clear k1 k2 hp np
    obtain ⟨y1, y2, y3⟩ := ways (t := 1 + t) (by omega) (by omega)
    have Y1 := Lib.hid y1
    have Y2 := Lib.hid y2
    have Y3 := Lib.hid y3
    have U1 := bnd_yes (tur_bnd (k := 2) (by omega) (by omega))
    have U2 := bnd_yes (tur_bnd (k := j - 2000) (by omega) (by omega))
    have U3 := bnd_yes (tur_bnd (k := j - 2000 + (k - 2000)) (by omega) (by omega))
    have W1 : widI (turI 2) = 1 := by rw [tur_two]; decide
    have W2 := tur_width (k := j - 2000) (by omega) (by omega)
    have S := Lib.hid (tur_sum (j := j - 2000) (k := k - 2000) (by omega) (by omega) (by omega) (by omega))
    have NG := tur_opp (k := j - 2000) (by omega) (by omega)
    have CA := Lib.hid (fun w => MachinPi_any (1 + t) w)
    have CB := Lib.hid (fun w => EulerPi_any (1 + t) w)
    have CQ := Lib.hid (fun w => PiI_any w)
    have CX := Lib.hid (fun w => TurnI_any (j - 2000) w)
    have CY := Lib.hid (fun w => TurnI_any (k - 2000) w)
    have CZ := Lib.hid (fun w => TurnI_any (j - 2000 + (k - 2000)) w)
    have CN := Lib.hid (fun w => sNegI_any (turI (j - 2000)) w)
    have CM := Lib.hid (fun w => TurnI_any (-(j - 2000)) w)
    have WN : IntKind.i64.wrap (-(j - 2000)) = -(j - 2000) := by rw [IntKind.wrap_i64]; omega
    rw [NG] at CN
    clear y1 y2 y3 NG
    have O1 := Lib.hid (fun w => sOverlapI_any (macI (1 + t)) (eulI (1 + t)) w)
    have O2 := Lib.hid (fun w => sOverlapI_any (macI (1 + t)) (turI 2) w)
    have O3 := Lib.hid (fun w => sOverlapI_any (eulI (1 + t)) (turI 2) w)
    have O4 := Lib.hid (fun w => sOverlapI_any (addI (turI (j - 2000)) (turI (k - 2000))) (turI (j - 2000 + (k - 2000))) w)
    rw [Y1.out] at O1
    rw [Y2.out] at O2
    rw [Y3.out] at O3
    rw [S.out] at O4
    clear Y1 Y2 Y3 S
    have AD := Lib.hid (fun w => sAddI_any (turI (j - 2000)) (turI (k - 2000)) w)
    have WX := Lib.hid (fun w => sWidthI_any (turI (j - 2000)) w)
    generalize addI (turI (j - 2000)) (turI (k - 2000)) = sm at *
    generalize turI (-(j - 2000)) = m at *
    generalize turI (j - 2000 + (k - 2000)) = z at *
    generalize turI (j - 2000) = x at *
    generalize turI (k - 2000) = y at *
    generalize turI 2 = q at *
    generalize macI (1 + t) = a at *
    generalize eulI (1 + t) = b at *
    generalize widI x = wx at *
    go_wp2_with fail
    refine (CA.out _).mono ?_
    rintro e w2 ⟨rfl, hb2⟩
    have hs2 : _ ≤ w2.heap.size := hb2.size
    try simp at hs2
    go_wp2_with fail
    refine (CB.out _).mono ?_
    rintro e w3 ⟨rfl, hb3⟩
    have hs3 : _ ≤ w3.heap.size := hb3.size
    try simp at hs3
    have o_a30 : Own (w3) (w2.heap.size) 0 (.int .i64 a.1) := ownJ; have a30 := o_a30.1; have f_a30 := o_a30.2; have o_a31 : Own (w3) (w2.heap.size) 1 (.int .i64 a.2) := ownJ; have a31 := o_a31.1; have f_a31 := o_a31.2
    have la3 : w2.heap.size < w3.heap.size := World.block_lt_of_cell? _ _ a30
    have na3 : ¬ w2.heap.size = w3.heap.size := Nat.ne_of_lt la3
    have ma3 : ¬ w3.heap.size = w2.heap.size := Nat.ne_of_gt la3
    go_wp2_with fail
    refine (CQ.out _).mono ?_
    rintro e w4 ⟨rfl, hb4⟩
    have hs4 : _ ≤ w4.heap.size := hb4.size
    try simp at hs4
    have o_a40 : Own (w4) (w2.heap.size) 0 (.int .i64 a.1) := ownJ; have a40 := o_a40.1; have f_a40 := o_a40.2; have o_a41 : Own (w4) (w2.heap.size) 1 (.int .i64 a.2) := ownJ; have a41 := o_a41.1; have f_a41 := o_a41.2
    have o_b40 : Own (w4) (w3.heap.size) 0 (.int .i64 b.1) := ownJ; have b40 := o_b40.1; have f_b40 := o_b40.2; have o_b41 : Own (w4) (w3.heap.size) 1 (.int .i64 b.2) := ownJ; have b41 := o_b41.1; have f_b41 := o_b41.2
    have la4 : w2.heap.size < w4.heap.size := World.block_lt_of_cell? _ _ a40
    have na4 : ¬ w2.heap.size = w4.heap.size := Nat.ne_of_lt la4
    have ma4 : ¬ w4.heap.size = w2.heap.size := Nat.ne_of_gt la4
    have lb4 : w3.heap.size < w4.heap.size := World.block_lt_of_cell? _ _ b40
    have nb4 : ¬ w3.heap.size = w4.heap.size := Nat.ne_of_lt lb4
    have mb4 : ¬ w4.heap.size = w3.heap.size := Nat.ne_of_gt lb4
    go_wp2_with fail
    refine (CX.out _).mono ?_
    rintro e w5 ⟨rfl, hb5⟩
    have hs5 : _ ≤ w5.heap.size := hb5.size
    try simp at hs5
    have o_a50 : Own (w5) (w2.heap.size) 0 (.int .i64 a.1) := ownJ; have a50 := o_a50.1; have f_a50 := o_a50.2; have o_a51 : Own (w5) (w2.heap.size) 1 (.int .i64 a.2) := ownJ; have a51 := o_a51.1; have f_a51 := o_a51.2
    have o_b50 : Own (w5) (w3.heap.size) 0 (.int .i64 b.1) := ownJ; have b50 := o_b50.1; have f_b50 := o_b50.2; have o_b51 : Own (w5) (w3.heap.size) 1 (.int .i64 b.2) := ownJ; have b51 := o_b51.1; have f_b51 := o_b51.2
    have o_q50 : Own (w5) (w4.heap.size) 0 (.int .i64 q.1) := ownJ; have q50 := o_q50.1; have f_q50 := o_q50.2; have o_q51 : Own (w5) (w4.heap.size) 1 (.int .i64 q.2) := ownJ; have q51 := o_q51.1; have f_q51 := o_q51.2
    have la5 : w2.heap.size < w5.heap.size := World.block_lt_of_cell? _ _ a50
    have na5 : ¬ w2.heap.size = w5.heap.size := Nat.ne_of_lt la5
    have ma5 : ¬ w5.heap.size = w2.heap.size := Nat.ne_of_gt la5
    have lb5 : w3.heap.size < w5.heap.size := World.block_lt_of_cell? _ _ b50
    have nb5 : ¬ w3.heap.size = w5.heap.size := Nat.ne_of_lt lb5
    have mb5 : ¬ w5.heap.size = w3.heap.size := Nat.ne_of_gt lb5
    have lq5 : w4.heap.size < w5.heap.size := World.block_lt_of_cell? _ _ q50
    have nq5 : ¬ w4.heap.size = w5.heap.size := Nat.ne_of_lt lq5
    have mq5 : ¬ w5.heap.size = w4.heap.size := Nat.ne_of_gt lq5
    go_wp2_with fail
    refine (CY.out _).mono ?_
    rintro e w6 ⟨rfl, hb6⟩
    have hs6 : _ ≤ w6.heap.size := hb6.size
    try simp at hs6
    have o_a60 : Own (w6) (w2.heap.size) 0 (.int .i64 a.1) := ownJ; have a60 := o_a60.1; have f_a60 := o_a60.2; have o_a61 : Own (w6) (w2.heap.size) 1 (.int .i64 a.2) := ownJ; have a61 := o_a61.1; have f_a61 := o_a61.2
    have o_b60 : Own (w6) (w3.heap.size) 0 (.int .i64 b.1) := ownJ; have b60 := o_b60.1; have f_b60 := o_b60.2; have o_b61 : Own (w6) (w3.heap.size) 1 (.int .i64 b.2) := ownJ; have b61 := o_b61.1; have f_b61 := o_b61.2
    have o_q60 : Own (w6) (w4.heap.size) 0 (.int .i64 q.1) := ownJ; have q60 := o_q60.1; have f_q60 := o_q60.2; have o_q61 : Own (w6) (w4.heap.size) 1 (.int .i64 q.2) := ownJ; have q61 := o_q61.1; have f_q61 := o_q61.2
    have o_x60 : Own (w6) (w5.heap.size) 0 (.int .i64 x.1) := ownJ; have x60 := o_x60.1; have f_x60 := o_x60.2; have o_x61 : Own (w6) (w5.heap.size) 1 (.int .i64 x.2) := ownJ; have x61 := o_x61.1; have f_x61 := o_x61.2
    have la6 : w2.heap.size < w6.heap.size := World.block_lt_of_cell? _ _ a60
    have na6 : ¬ w2.heap.size = w6.heap.size := Nat.ne_of_lt la6
    have ma6 : ¬ w6.heap.size = w2.heap.size := Nat.ne_of_gt la6
    have lb6 : w3.heap.size < w6.heap.size := World.block_lt_of_cell? _ _ b60
    have nb6 : ¬ w3.heap.size = w6.heap.size := Nat.ne_of_lt lb6
    have mb6 : ¬ w6.heap.size = w3.heap.size := Nat.ne_of_gt lb6
    have lq6 : w4.heap.size < w6.heap.size := World.block_lt_of_cell? _ _ q60
    have nq6 : ¬ w4.heap.size = w6.heap.size := Nat.ne_of_lt lq6
    have mq6 : ¬ w6.heap.size = w4.heap.size := Nat.ne_of_gt lq6
    have lx6 : w5.heap.size < w6.heap.size := World.block_lt_of_cell? _ _ x60
    have nx6 : ¬ w5.heap.size = w6.heap.size := Nat.ne_of_lt lx6
    have mx6 : ¬ w6.heap.size = w5.heap.size := Nat.ne_of_gt lx6
    go_wp2_with fail
    refine (CZ.out _).mono ?_
    rintro e w7 ⟨rfl, hb7⟩
    have hs7 : _ ≤ w7.heap.size := hb7.size
    try simp at hs7
    have o_a70 : Own (w7) (w2.heap.size) 0 (.int .i64 a.1) := ownJ; have a70 := o_a70.1; have f_a70 := o_a70.2; have o_a71 : Own (w7) (w2.heap.size) 1 (.int .i64 a.2) := ownJ; have a71 := o_a71.1; have f_a71 := o_a71.2
    have o_b70 : Own (w7) (w3.heap.size) 0 (.int .i64 b.1) := ownJ; have b70 := o_b70.1; have f_b70 := o_b70.2; have o_b71 : Own (w7) (w3.heap.size) 1 (.int .i64 b.2) := ownJ; have b71 := o_b71.1; have f_b71 := o_b71.2
    have o_q70 : Own (w7) (w4.heap.size) 0 (.int .i64 q.1) := ownJ; have q70 := o_q70.1; have f_q70 := o_q70.2; have o_q71 : Own (w7) (w4.heap.size) 1 (.int .i64 q.2) := ownJ; have q71 := o_q71.1; have f_q71 := o_q71.2
    have o_x70 : Own (w7) (w5.heap.size) 0 (.int .i64 x.1) := ownJ; have x70 := o_x70.1; have f_x70 := o_x70.2; have o_x71 : Own (w7) (w5.heap.size) 1 (.int .i64 x.2) := ownJ; have x71 := o_x71.1; have f_x71 := o_x71.2
    have o_y70 : Own (w7) (w6.heap.size) 0 (.int .i64 y.1) := ownJ; have y70 := o_y70.1; have f_y70 := o_y70.2; have o_y71 : Own (w7) (w6.heap.size) 1 (.int .i64 y.2) := ownJ; have y71 := o_y71.1; have f_y71 := o_y71.2
    have la7 : w2.heap.size < w7.heap.size := World.block_lt_of_cell? _ _ a70
    have na7 : ¬ w2.heap.size = w7.heap.size := Nat.ne_of_lt la7
    have ma7 : ¬ w7.heap.size = w2.heap.size := Nat.ne_of_gt la7
    have lb7 : w3.heap.size < w7.heap.size := World.block_lt_of_cell? _ _ b70
    have nb7 : ¬ w3.heap.size = w7.heap.size := Nat.ne_of_lt lb7
    have mb7 : ¬ w7.heap.size = w3.heap.size := Nat.ne_of_gt lb7
    have lq7 : w4.heap.size < w7.heap.size := World.block_lt_of_cell? _ _ q70
    have nq7 : ¬ w4.heap.size = w7.heap.size := Nat.ne_of_lt lq7
    have mq7 : ¬ w7.heap.size = w4.heap.size := Nat.ne_of_gt lq7
    have lx7 : w5.heap.size < w7.heap.size := World.block_lt_of_cell? _ _ x70
    have nx7 : ¬ w5.heap.size = w7.heap.size := Nat.ne_of_lt lx7
    have mx7 : ¬ w7.heap.size = w5.heap.size := Nat.ne_of_gt lx7
    have ly7 : w6.heap.size < w7.heap.size := World.block_lt_of_cell? _ _ y70
    have ny7 : ¬ w6.heap.size = w7.heap.size := Nat.ne_of_lt ly7
    have my7 : ¬ w7.heap.size = w6.heap.size := Nat.ne_of_gt ly7
    go_wp2_with fail
    refine (sValidInterval_any q _).mono ?_
    rintro e w8 ⟨rfl, hb8⟩
    have hs8 : _ ≤ w8.heap.size := hb8.size
    try simp at hs8
    rw [U1]
    have o_a80 : Own (w8) (w2.heap.size) 0 (.int .i64 a.1) := ownJ; have a80 := o_a80.1; have f_a80 := o_a80.2; have o_a81 : Own (w8) (w2.heap.size) 1 (.int .i64 a.2) := ownJ; have a81 := o_a81.1; have f_a81 := o_a81.2
    have o_b80 : Own (w8) (w3.heap.size) 0 (.int .i64 b.1) := ownJ; have b80 := o_b80.1; have f_b80 := o_b80.2; have o_b81 : Own (w8) (w3.heap.size) 1 (.int .i64 b.2) := ownJ; have b81 := o_b81.1; have f_b81 := o_b81.2
    have o_q80 : Own (w8) (w4.heap.size) 0 (.int .i64 q.1) := ownJ; have q80 := o_q80.1; have f_q80 := o_q80.2; have o_q81 : Own (w8) (w4.heap.size) 1 (.int .i64 q.2) := ownJ; have q81 := o_q81.1; have f_q81 := o_q81.2
    have o_x80 : Own (w8) (w5.heap.size) 0 (.int .i64 x.1) := ownJ; have x80 := o_x80.1; have f_x80 := o_x80.2; have o_x81 : Own (w8) (w5.heap.size) 1 (.int .i64 x.2) := ownJ; have x81 := o_x81.1; have f_x81 := o_x81.2
    have o_y80 : Own (w8) (w6.heap.size) 0 (.int .i64 y.1) := ownJ; have y80 := o_y80.1; have f_y80 := o_y80.2; have o_y81 : Own (w8) (w6.heap.size) 1 (.int .i64 y.2) := ownJ; have y81 := o_y81.1; have f_y81 := o_y81.2
    have o_z80 : Own (w8) (w7.heap.size) 0 (.int .i64 z.1) := ownJ; have z80 := o_z80.1; have f_z80 := o_z80.2; have o_z81 : Own (w8) (w7.heap.size) 1 (.int .i64 z.2) := ownJ; have z81 := o_z81.1; have f_z81 := o_z81.2
    go_wp2_with fail
    refine (sValidInterval_any x _).mono ?_
    rintro e w9 ⟨rfl, hb9⟩
    have hs9 : _ ≤ w9.heap.size := hb9.size
    try simp at hs9
    rw [U2]
    have o_a90 : Own (w9) (w2.heap.size) 0 (.int .i64 a.1) := ownJ; have a90 := o_a90.1; have f_a90 := o_a90.2; have o_a91 : Own (w9) (w2.heap.size) 1 (.int .i64 a.2) := ownJ; have a91 := o_a91.1; have f_a91 := o_a91.2
    have o_b90 : Own (w9) (w3.heap.size) 0 (.int .i64 b.1) := ownJ; have b90 := o_b90.1; have f_b90 := o_b90.2; have o_b91 : Own (w9) (w3.heap.size) 1 (.int .i64 b.2) := ownJ; have b91 := o_b91.1; have f_b91 := o_b91.2
    have o_q90 : Own (w9) (w4.heap.size) 0 (.int .i64 q.1) := ownJ; have q90 := o_q90.1; have f_q90 := o_q90.2; have o_q91 : Own (w9) (w4.heap.size) 1 (.int .i64 q.2) := ownJ; have q91 := o_q91.1; have f_q91 := o_q91.2
    have o_x90 : Own (w9) (w5.heap.size) 0 (.int .i64 x.1) := ownJ; have x90 := o_x90.1; have f_x90 := o_x90.2; have o_x91 : Own (w9) (w5.heap.size) 1 (.int .i64 x.2) := ownJ; have x91 := o_x91.1; have f_x91 := o_x91.2
    have o_y90 : Own (w9) (w6.heap.size) 0 (.int .i64 y.1) := ownJ; have y90 := o_y90.1; have f_y90 := o_y90.2; have o_y91 : Own (w9) (w6.heap.size) 1 (.int .i64 y.2) := ownJ; have y91 := o_y91.1; have f_y91 := o_y91.2
    have o_z90 : Own (w9) (w7.heap.size) 0 (.int .i64 z.1) := ownJ; have z90 := o_z90.1; have f_z90 := o_z90.2; have o_z91 : Own (w9) (w7.heap.size) 1 (.int .i64 z.2) := ownJ; have z91 := o_z91.1; have f_z91 := o_z91.2
    go_wp2_with fail
    refine (sValidInterval_any z _).mono ?_
    rintro e w10 ⟨rfl, hb10⟩
    have hs10 : _ ≤ w10.heap.size := hb10.size
    try simp at hs10
    rw [U3]
    have o_a100 : Own (w10) (w2.heap.size) 0 (.int .i64 a.1) := ownJ; have a100 := o_a100.1; have f_a100 := o_a100.2; have o_a101 : Own (w10) (w2.heap.size) 1 (.int .i64 a.2) := ownJ; have a101 := o_a101.1; have f_a101 := o_a101.2
    have o_b100 : Own (w10) (w3.heap.size) 0 (.int .i64 b.1) := ownJ; have b100 := o_b100.1; have f_b100 := o_b100.2; have o_b101 : Own (w10) (w3.heap.size) 1 (.int .i64 b.2) := ownJ; have b101 := o_b101.1; have f_b101 := o_b101.2
    have o_q100 : Own (w10) (w4.heap.size) 0 (.int .i64 q.1) := ownJ; have q100 := o_q100.1; have f_q100 := o_q100.2; have o_q101 : Own (w10) (w4.heap.size) 1 (.int .i64 q.2) := ownJ; have q101 := o_q101.1; have f_q101 := o_q101.2
    have o_x100 : Own (w10) (w5.heap.size) 0 (.int .i64 x.1) := ownJ; have x100 := o_x100.1; have f_x100 := o_x100.2; have o_x101 : Own (w10) (w5.heap.size) 1 (.int .i64 x.2) := ownJ; have x101 := o_x101.1; have f_x101 := o_x101.2
    have o_y100 : Own (w10) (w6.heap.size) 0 (.int .i64 y.1) := ownJ; have y100 := o_y100.1; have f_y100 := o_y100.2; have o_y101 : Own (w10) (w6.heap.size) 1 (.int .i64 y.2) := ownJ; have y101 := o_y101.1; have f_y101 := o_y101.2
    have o_z100 : Own (w10) (w7.heap.size) 0 (.int .i64 z.1) := ownJ; have z100 := o_z100.1; have f_z100 := o_z100.2; have o_z101 : Own (w10) (w7.heap.size) 1 (.int .i64 z.2) := ownJ; have z101 := o_z101.1; have f_z101 := o_z101.2
    go_wp2_with fail
    refine (sWidthI_any q _).mono ?_
    rintro e w11 ⟨rfl, hb11⟩
    have hs11 : _ ≤ w11.heap.size := hb11.size
    try simp at hs11
    rw [W1]
    have o_a110 : Own (w11) (w2.heap.size) 0 (.int .i64 a.1) := ownJ; have a110 := o_a110.1; have f_a110 := o_a110.2; have o_a111 : Own (w11) (w2.heap.size) 1 (.int .i64 a.2) := ownJ; have a111 := o_a111.1; have f_a111 := o_a111.2
    have o_b110 : Own (w11) (w3.heap.size) 0 (.int .i64 b.1) := ownJ; have b110 := o_b110.1; have f_b110 := o_b110.2; have o_b111 : Own (w11) (w3.heap.size) 1 (.int .i64 b.2) := ownJ; have b111 := o_b111.1; have f_b111 := o_b111.2
    have o_q110 : Own (w11) (w4.heap.size) 0 (.int .i64 q.1) := ownJ; have q110 := o_q110.1; have f_q110 := o_q110.2; have o_q111 : Own (w11) (w4.heap.size) 1 (.int .i64 q.2) := ownJ; have q111 := o_q111.1; have f_q111 := o_q111.2
    have o_x110 : Own (w11) (w5.heap.size) 0 (.int .i64 x.1) := ownJ; have x110 := o_x110.1; have f_x110 := o_x110.2; have o_x111 : Own (w11) (w5.heap.size) 1 (.int .i64 x.2) := ownJ; have x111 := o_x111.1; have f_x111 := o_x111.2
    have o_y110 : Own (w11) (w6.heap.size) 0 (.int .i64 y.1) := ownJ; have y110 := o_y110.1; have f_y110 := o_y110.2; have o_y111 : Own (w11) (w6.heap.size) 1 (.int .i64 y.2) := ownJ; have y111 := o_y111.1; have f_y111 := o_y111.2
    have o_z110 : Own (w11) (w7.heap.size) 0 (.int .i64 z.1) := ownJ; have z110 := o_z110.1; have f_z110 := o_z110.2; have o_z111 : Own (w11) (w7.heap.size) 1 (.int .i64 z.2) := ownJ; have z111 := o_z111.1; have f_z111 := o_z111.2
    go_wp2_with fail
    refine (WX.out _).mono ?_
    rintro e w12 ⟨rfl, hb12⟩
    have hs12 : _ ≤ w12.heap.size := hb12.size
    try simp at hs12
    have o_a120 : Own (w12) (w2.heap.size) 0 (.int .i64 a.1) := ownJ; have a120 := o_a120.1; have f_a120 := o_a120.2; have o_a121 : Own (w12) (w2.heap.size) 1 (.int .i64 a.2) := ownJ; have a121 := o_a121.1; have f_a121 := o_a121.2
    have o_b120 : Own (w12) (w3.heap.size) 0 (.int .i64 b.1) := ownJ; have b120 := o_b120.1; have f_b120 := o_b120.2; have o_b121 : Own (w12) (w3.heap.size) 1 (.int .i64 b.2) := ownJ; have b121 := o_b121.1; have f_b121 := o_b121.2
    have o_q120 : Own (w12) (w4.heap.size) 0 (.int .i64 q.1) := ownJ; have q120 := o_q120.1; have f_q120 := o_q120.2; have o_q121 : Own (w12) (w4.heap.size) 1 (.int .i64 q.2) := ownJ; have q121 := o_q121.1; have f_q121 := o_q121.2
    have o_x120 : Own (w12) (w5.heap.size) 0 (.int .i64 x.1) := ownJ; have x120 := o_x120.1; have f_x120 := o_x120.2; have o_x121 : Own (w12) (w5.heap.size) 1 (.int .i64 x.2) := ownJ; have x121 := o_x121.1; have f_x121 := o_x121.2
    have o_y120 : Own (w12) (w6.heap.size) 0 (.int .i64 y.1) := ownJ; have y120 := o_y120.1; have f_y120 := o_y120.2; have o_y121 : Own (w12) (w6.heap.size) 1 (.int .i64 y.2) := ownJ; have y121 := o_y121.1; have f_y121 := o_y121.2
    have o_z120 : Own (w12) (w7.heap.size) 0 (.int .i64 z.1) := ownJ; have z120 := o_z120.1; have f_z120 := o_z120.2; have o_z121 : Own (w12) (w7.heap.size) 1 (.int .i64 z.2) := ownJ; have z121 := o_z121.1; have f_z121 := o_z121.2
    go_wp2_with fail
    obtain ⟨hlt2, hlt3, hlt4, hlt5, hlt6, hlt7, hlt8, hlt9, hlt10, hlt11⟩ := below_add; go_region_held3 (fun w' => w'.cell? ⟨w2.heap.size, 0, none⟩ = some (.int .i64 a.1) ∧ w'.cell? ⟨w2.heap.size, 1, none⟩ = some (.int .i64 a.2) ∧ w'.cell? ⟨w3.heap.size, 0, none⟩ = some (.int .i64 b.1) ∧ w'.cell? ⟨w3.heap.size, 1, none⟩ = some (.int .i64 b.2) ∧ w'.cell? ⟨w4.heap.size, 0, none⟩ = some (.int .i64 q.1) ∧ w'.cell? ⟨w4.heap.size, 1, none⟩ = some (.int .i64 q.2) ∧ w'.cell? ⟨w5.heap.size, 0, none⟩ = some (.int .i64 x.1) ∧ w'.cell? ⟨w5.heap.size, 1, none⟩ = some (.int .i64 x.2) ∧ w'.cell? ⟨w6.heap.size, 0, none⟩ = some (.int .i64 y.1) ∧ w'.cell? ⟨w6.heap.size, 1, none⟩ = some (.int .i64 y.2) ∧ w'.cell? ⟨w7.heap.size, 0, none⟩ = some (.int .i64 z.1) ∧ w'.cell? ⟨w7.heap.size, 1, none⟩ = some (.int .i64 z.2)) (first | (with_reducible exact ((And.imp (cell_kept (by assumption)) (And.imp (cell_kept (by assumption)) (And.imp (cell_kept (by assumption)) (And.imp (cell_kept (by assumption)) (And.imp (cell_kept (by assumption)) (And.imp (cell_kept (by assumption)) (And.imp (cell_kept (by assumption)) (And.imp (cell_kept (by assumption)) (And.imp (cell_kept (by assumption)) (And.imp (cell_kept (by assumption)) (And.imp (cell_kept (by assumption)) (cell_kept (by assumption))))))))))))) (by assumption))) | (with_reducible exact ((And.imp (cell_alloc) (And.imp (cell_alloc) (And.imp (cell_alloc) (And.imp (cell_alloc) (And.imp (cell_alloc) (And.imp (cell_alloc) (And.imp (cell_alloc) (And.imp (cell_alloc) (And.imp (cell_alloc) (And.imp (cell_alloc) (And.imp (cell_alloc) (cell_alloc)))))))))))) (by assumption))) | (with_reducible exact ((And.imp (fun h => cell_far (by first | (simp; done) | (simp; omega)) (cell_far (by first | (simp; done) | (simp; omega)) h)) (And.imp (fun h => cell_far (by first | (simp; done) | (simp; omega)) (cell_far (by first | (simp; done) | (simp; omega)) h)) (And.imp (fun h => cell_far (by first | (simp; done) | (simp; omega)) (cell_far (by first | (simp; done) | (simp; omega)) h)) (And.imp (fun h => cell_far (by first | (simp; done) | (simp; omega)) (cell_far (by first | (simp; done) | (simp; omega)) h)) (And.imp (fun h => cell_far (by first | (simp; done) | (simp; omega)) (cell_far (by first | (simp; done) | (simp; omega)) h)) (And.imp (fun h => cell_far (by first | (simp; done) | (simp; omega)) (cell_far (by first | (simp; done) | (simp; omega)) h)) (And.imp (fun h => cell_far (by first | (simp; done) | (simp; omega)) (cell_far (by first | (simp; done) | (simp; omega)) h)) (And.imp (fun h => cell_far (by first | (simp; done) | (simp; omega)) (cell_far (by first | (simp; done) | (simp; omega)) h)) (And.imp (fun h => cell_far (by first | (simp; done) | (simp; omega)) (cell_far (by first | (simp; done) | (simp; omega)) h)) (And.imp (fun h => cell_far (by first | (simp; done) | (simp; omega)) (cell_far (by first | (simp; done) | (simp; omega)) h)) (And.imp (fun h => cell_far (by first | (simp; done) | (simp; omega)) (cell_far (by first | (simp; done) | (simp; omega)) h)) (fun h => cell_far (by first | (simp; done) | (simp; omega)) (cell_far (by first | (simp; done) | (simp; omega)) h))))))))))))) (by assumption))) | (refine ⟨?_, ?_, ?_, ?_, ?_, ?_, ?_, ?_, ?_, ?_, ?_, ?_⟩ <;> repeat (first | (with_reducible assumption) | (with_reducible refine cell_far (by first | (simp; done) | (simp; omega)) ?_) | (with_reducible refine cell_drew ?_) | (with_reducible refine cell_drewN ?_) | (with_reducible refine cell_kept (by assumption) ?_) | (simp [go_sem]; done) | (with_reducible refine cell_alloc ?_))) | (simp [go_sem, *]; done)) (first | (go_at_call 36; with_reducible refine (O1.out _).mono ?_; rintro e w1 ⟨rfl, hb⟩; have hs : _ ≤ w1.heap.size := hb.size; (try simp at hs); obtain ⟨hc, hf, hl, hn, hm⟩ := behind hb) | (go_at_call 36; with_reducible refine (O2.out _).mono ?_; rintro e w1 ⟨rfl, hb⟩; have hs : _ ≤ w1.heap.size := hb.size; (try simp at hs); obtain ⟨hc, hf, hl, hn, hm⟩ := behind hb) | (go_at_call 36; with_reducible refine (O3.out _).mono ?_; rintro e w1 ⟨rfl, hb⟩; have hs : _ ≤ w1.heap.size := hb.size; (try simp at hs); obtain ⟨hc, hf, hl, hn, hm⟩ := behind hb) | (go_at_call 36; with_reducible refine (O4.out _).mono ?_; rintro e w1 ⟨rfl, hb⟩; have hs : _ ≤ w1.heap.size := hb.size; (try simp at hs); obtain ⟨hc, hf, hl, hn, hm⟩ := behind hb) | (go_at_call 37; with_reducible refine (AD.out _).mono ?_; rintro e w1 ⟨rfl, hb⟩; have hs : _ ≤ w1.heap.size := hb.size; (try simp at hs); obtain ⟨hc, hf, hl, hn, hm⟩ := behind hb) | (go_at_call 38; with_reducible refine (CN.out _).mono ?_; rintro e w1 ⟨rfl, hb⟩; have hs : _ ≤ w1.heap.size := hb.size; (try simp at hs); obtain ⟨hc, hf, hl, hn, hm⟩ := behind hb) | (go_at_call 33; with_reducible refine (CM.out _).mono ?_; rintro e w1 ⟨rfl, hb⟩; have hs : _ ≤ w1.heap.size := hb.size; (try simp at hs); obtain ⟨hc, hf, hl, hn, hm⟩ := behind hb))
    all_goals (go_wp2; go_ret; exact ⟨rfl, belB⟩)
end Go.Proofs.Ytnnanbaldcjfiaa
