/- The law of angles in units: at every input that can be read as data the call returns true. No conditions. -/
import Derived.Test.YtnnanbaldcjfiaaDrawE
import Derived.Test.YtnnanbaldcjfiaaTrC
import Derived.Test.YtnnanbaldcjfiaaNumR
import Derived.Test.YtnnanbaldcjfiaaIvZo
import Derived.Outline
namespace Go.Proofs.Ytnnanbaldcjfiaa
open Go.ChangeShapes Go.WideShapes Go.ChangeAt Go.RowKit
set_option linter.unusedVariables false
set_option maxRecDepth 100000
set_option linter.unusedSimpArgs false
set_option maxHeartbeats 1000000

set_option maxHeartbeats 4000000 in
theorem law_FnUnits (p q : Option Addr) (n cp m cq : Nat) (w : World) (hp : BytesAt w w.heap.size p n) (hq : BytesAt w w.heap.size q m) : Calls Try.prog 12 #[.slice p n cp, .slice q m cq] w fun e w' =>
    e = .returned (.bool true) ∧ Below w.heap.size w w' := by
  have np := hp.big
  have nq := hq.big
  by_cases long : 1048576 < n ∨ 1048576 < m
  · have E := Lib.hid (show decide (1048576 < n ∨ 1048576 < m) = true by simpa using long)
    clear long
    go_enter Try.func12, Try.ntmps12
    go_wp2_with fail
    refine (d8Long_any p q n cp m cq np nq _).mono ?_
    rintro e w0 ⟨rfl, rfl⟩
    rw [E.out]
    go_wp2
    go_ret
    exact ⟨rfl, belB⟩
  · have E := Lib.hid (show decide (1048576 < n ∨ 1048576 < m) = false by simpa using long)
    clear long
    go_enter Try.func12, Try.ntmps12
    go_wp2_with fail
    refine (d8Long_any p q n cp m cq np nq _).mono ?_
    rintro e w0 ⟨rfl, hw⟩
    subst w0
    rw [E.out]
    clear E
    go_wp2_with fail
    refine (E8Fix_any p n cp 18000000000 (by omega) (by omega) _ hp).mono ?_
    rintro e w1 ⟨a, rfl, a0, a1, hb1⟩
    go_wp2_with fail
    refine (E8Fix_any q m cq 18000000000 (by omega) (by omega) _ ((hq.below hb1).mono hb1.size)).mono ?_
    rintro e w2 ⟨b, rfl, b0, b1, hb2⟩
    have hbw : Below w.heap.size w w2 := hb1.trans (hb2.mono hb1.size)
    clear hb1 hb2 hp hq np nq
    obtain ⟨ux, uw, uk, ul, uh, ud, ul0, uh0⟩ := units_back a0 a1
    have UX := bnd_yes ux
    have S := Lib.hid (rad_add a0 a1 b0 b1)
    have G := Lib.hid (deg_back a0 a1)
    have hx := Lib.hid (res_ok (radI_res a))
    have hs0 := hbw.size
    clear ux
    have RA := Lib.hid (fun w => RadiansOf_any a w)
    have RB := Lib.hid (fun w => RadiansOf_any b w)
    have UN := Lib.hid (fun w => UnitsOf_any (radI a) w)
    rw [uk] at UN
    clear uk
    generalize radI a = x at *
    generalize radI b = y at *
    generalize unL x = l at *
    generalize unH x = h at *
    go_wp2_with fail
    refine (RA.out _).mono ?_
    rintro e w3 ⟨rfl, hb3⟩
    have hs3 : _ ≤ w3.heap.size := hb3.size
    try simp at hs3
    go_wp2_with fail
    refine (RB.out _).mono ?_
    rintro e w4 ⟨rfl, hb4⟩
    have hs4 : _ ≤ w4.heap.size := hb4.size
    try simp at hs4
    have o_x40 : Own (w4) (w3.heap.size) 0 (.int .i64 x.1) := ownJ; have x40 := o_x40.1; have f_x40 := o_x40.2; have o_x41 : Own (w4) (w3.heap.size) 1 (.int .i64 x.2) := ownJ; have x41 := o_x41.1; have f_x41 := o_x41.2
    have zz4 : w3.heap.size < w4.heap.size := World.block_lt_of_cell? _ _ x40; obtain ⟨zz4a, zz4b, zz4c, zz4d, zz4e, zz4f, zz4g, zz4h, zz4i⟩ := below_more zz4; have zn4 : ¬ w3.heap.size = w4.heap.size := Nat.ne_of_lt zz4; have zm4 : ¬ w4.heap.size = w3.heap.size := Nat.ne_of_gt zz4
    go_wp2_with fail
    refine (UN.out _).mono ?_
    rintro e w5 ⟨rfl, hb5⟩
    have hs5 : _ ≤ w5.heap.size := hb5.size
    try simp at hs5
    have o_x50 : Own (w5) (w3.heap.size) 0 (.int .i64 x.1) := ownJ; have x50 := o_x50.1; have f_x50 := o_x50.2; have o_x51 : Own (w5) (w3.heap.size) 1 (.int .i64 x.2) := ownJ; have x51 := o_x51.1; have f_x51 := o_x51.2
    have o_y50 : Own (w5) (w4.heap.size) 0 (.int .i64 y.1) := ownJ; have y50 := o_y50.1; have f_y50 := o_y50.2; have o_y51 : Own (w5) (w4.heap.size) 1 (.int .i64 y.2) := ownJ; have y51 := o_y51.1; have f_y51 := o_y51.2
    go_wp2_with fail
    refine (sValidInterval_any x _).mono ?_
    rintro e w6 ⟨rfl, hb6⟩
    have hs6 : _ ≤ w6.heap.size := hb6.size
    try simp at hs6
    rw [UX]
    have o_x60 : Own (w6) (w3.heap.size) 0 (.int .i64 x.1) := ownJ; have x60 := o_x60.1; have f_x60 := o_x60.2; have o_x61 : Own (w6) (w3.heap.size) 1 (.int .i64 x.2) := ownJ; have x61 := o_x61.1; have f_x61 := o_x61.2
    have o_y60 : Own (w6) (w4.heap.size) 0 (.int .i64 y.1) := ownJ; have y60 := o_y60.1; have f_y60 := o_y60.2; have o_y61 : Own (w6) (w4.heap.size) 1 (.int .i64 y.2) := ownJ; have y61 := o_y61.1; have f_y61 := o_y61.2
    go_wp2_with fail
    refine (sWidthI_any x _).mono ?_
    rintro e w7 ⟨rfl, hb7⟩
    have hs7 : _ ≤ w7.heap.size := hb7.size
    try simp at hs7
    have o_x70 : Own (w7) (w3.heap.size) 0 (.int .i64 x.1) := ownJ; have x70 := o_x70.1; have f_x70 := o_x70.2; have o_x71 : Own (w7) (w3.heap.size) 1 (.int .i64 x.2) := ownJ; have x71 := o_x71.1; have f_x71 := o_x71.2
    have o_y70 : Own (w7) (w4.heap.size) 0 (.int .i64 y.1) := ownJ; have y70 := o_y70.1; have f_y70 := o_y70.2; have o_y71 : Own (w7) (w4.heap.size) 1 (.int .i64 y.2) := ownJ; have y71 := o_y71.1; have f_y71 := o_y71.2
    generalize widI x = ww at *
    go_wp2_with fail
    refine (sAddI_any x y _).mono ?_
    rintro e w8 ⟨rfl, hb8⟩
    have hs8 : _ ≤ w8.heap.size := hb8.size
    try simp at hs8
    have o_x80 : Own (w8) (w3.heap.size) 0 (.int .i64 x.1) := ownJ; have x80 := o_x80.1; have f_x80 := o_x80.2; have o_x81 : Own (w8) (w3.heap.size) 1 (.int .i64 x.2) := ownJ; have x81 := o_x81.1; have f_x81 := o_x81.2
    go_wp2_with fail
    refine (RadiansOf_any (a + b) _).mono ?_
    rintro e w9 ⟨rfl, hb9⟩
    have hs9 : _ ≤ w9.heap.size := hb9.size
    try simp at hs9
    have o_x90 : Own (w9) (w3.heap.size) 0 (.int .i64 x.1) := ownJ; have x90 := o_x90.1; have f_x90 := o_x90.2; have o_x91 : Own (w9) (w3.heap.size) 1 (.int .i64 x.2) := ownJ; have x91 := o_x91.1; have f_x91 := o_x91.2
    go_wp2_with fail
    refine (sOverlapI_any (addI x y) (radI (a + b)) _).mono ?_
    rintro e w10 ⟨rfl, hb10⟩
    have hs10 : _ ≤ w10.heap.size := hb10.size
    try simp at hs10
    rw [S.out]
    have o_x100 : Own (w10) (w3.heap.size) 0 (.int .i64 x.1) := ownJ; have x100 := o_x100.1; have f_x100 := o_x100.2; have o_x101 : Own (w10) (w3.heap.size) 1 (.int .i64 x.2) := ownJ; have x101 := o_x101.1; have f_x101 := o_x101.2
    go_wp2_with fail
    refine (DegreesOf_any x hx.out _).mono ?_
    rintro e w11 ⟨rfl, hb11⟩
    have hs11 : _ ≤ w11.heap.size := hb11.size
    try simp at hs11
    go_wp2_with fail
    refine (sQuotient_any a 10000000 (by unfold In64; omega) (by unfold In64; omega) _).mono ?_
    rintro e w12 ⟨rfl, hb12⟩
    have hs12 : _ ≤ w12.heap.size := hb12.size
    try simp at hs12
    go_wp2_with fail
    refine (sOverlapI_any (degI x) (quoI a 10000000) _).mono ?_
    rintro e w13 ⟨rfl, hb13⟩
    have hs13 : _ ≤ w13.heap.size := hb13.size
    try simp at hs13
    rw [G.out]
    go_wp2
    go_ret
    exact ⟨rfl, belB⟩
end Go.Proofs.Ytnnanbaldcjfiaa
