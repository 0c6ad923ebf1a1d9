/- A contract of common parts of intervals in the program. Conditions: numbers are int64. -/
import Derived.Test.YtmikjgbojknlnaaGreatDoorIvR
import Derived.Outline
namespace Go.Proofs.YtmikjgbojknlnaaGreatDoor
open Go.ChangeShapes Go.WideShapes Go.ChangeAt Go.RowKit
set_option linter.unusedVariables false
set_option maxRecDepth 100000
set_option linter.unusedSimpArgs false
set_option maxHeartbeats 1000000

attribute [local go_sem ↓] run_min_ends run_max_ends
set_option maxHeartbeats 8000000 in
theorem MeetI_any (x y : Iv) (w : World) : Calls Tryz.prog 76 #[.agg #[.int .i64 x.1, .int .i64 x.2], .agg #[.int .i64 y.1, .int .i64 y.2]] w fun e w' =>
    e = .returned (.tuple #[.agg #[.int .i64 (metI x y).1, .int .i64 (metI x y).2], .bool (olpI x y)]) ∧ Below w.heap.size w w' := by
  cases c : olpI x y
  · have E := Lib.hid (show metI x y = (0, 0) from if_neg (by simp [c]))
    have HC := Lib.hid c
    clear c
    go_enter Tryz.func76, Tryz.ntmps76
    go_wp2_with fail
    refine (OverlapI_any x y _).mono ?_
    rintro e w1 ⟨rfl, hb1⟩
    have hs1 : _ ≤ w1.heap.size := hb1.size
    try simp at hs1
    rw [HC.out]
    have o_qa10 : Own (w1) (w.heap.size) 0 (.int .i64 x.1) := ownJ; obtain ⟨qa10, f_qa10⟩ := o_qa10; have o_qa11 : Own (w1) (w.heap.size) 1 (.int .i64 x.2) := ownJ; obtain ⟨qa11, f_qa11⟩ := o_qa11
    have o_qb10 : Own (w1) (w.heap.size + 1) 0 (.int .i64 y.1) := ownJ; obtain ⟨qb10, f_qb10⟩ := o_qb10; have o_qb11 : Own (w1) (w.heap.size + 1) 1 (.int .i64 y.2) := ownJ; obtain ⟨qb11, f_qb11⟩ := o_qb11
    have o_qr10 : Own (w1) (w.heap.size + 1 + 1) 0 (.int .i64 0) := ownJ; obtain ⟨qr10, f_qr10⟩ := o_qr10; have o_qr11 : Own (w1) (w.heap.size + 1 + 1) 1 (.int .i64 0) := ownJ; obtain ⟨qr11, f_qr11⟩ := o_qr11
    go_wp2
    exact bodyPost_ret (v := .tuple #[.agg #[.int .i64 0, .int .i64 0], .bool false]) (by simp [results, Tryz.results76, go_sem, qr10, qr11]) rfl ⟨(by first | (rw [E.out]; done) | (rw [E.out]; rfl) | (simp [E.out]; done)), belB⟩
  · have E := Lib.hid (show metI x y = (max (can x).1 (can y).1, min (can x).2 (can y).2) from if_pos c)
    have HC := Lib.hid c
    clear c
    obtain ⟨hlt2, hlt3, hlt4, hlt5, hlt6, hlt7, hlt8, hlt9, hlt10, hlt11⟩ := below_add
    go_enter Tryz.func76, Tryz.ntmps76
    go_wp2_with fail
    refine (OverlapI_any x y _).mono ?_
    rintro e w1 ⟨rfl, hb1⟩
    have hs1 : _ ≤ w1.heap.size := hb1.size
    try simp at hs1
    rw [HC.out]
    have o_qa10 : Own (w1) (w.heap.size) 0 (.int .i64 x.1) := ownJ; obtain ⟨qa10, f_qa10⟩ := o_qa10; have o_qa11 : Own (w1) (w.heap.size) 1 (.int .i64 x.2) := ownJ; obtain ⟨qa11, f_qa11⟩ := o_qa11
    have o_qb10 : Own (w1) (w.heap.size + 1) 0 (.int .i64 y.1) := ownJ; obtain ⟨qb10, f_qb10⟩ := o_qb10; have o_qb11 : Own (w1) (w.heap.size + 1) 1 (.int .i64 y.2) := ownJ; obtain ⟨qb11, f_qb11⟩ := o_qb11
    have o_qr10 : Own (w1) (w.heap.size + 1 + 1) 0 (.int .i64 0) := ownJ; obtain ⟨qr10, f_qr10⟩ := o_qr10; have o_qr11 : Own (w1) (w.heap.size + 1 + 1) 1 (.int .i64 0) := ownJ; obtain ⟨qr11, f_qr11⟩ := o_qr11
    have la : w.heap.size < w1.heap.size := World.block_lt_of_cell? _ _ qa10
    have na : ¬ w.heap.size = w1.heap.size := Nat.ne_of_lt la
    have ma : ¬ w1.heap.size = w.heap.size := Nat.ne_of_gt la
    have lb : w.heap.size + 1 < w1.heap.size := World.block_lt_of_cell? _ _ qb10
    have nb : ¬ w.heap.size + 1 = w1.heap.size := Nat.ne_of_lt lb
    have mb : ¬ w1.heap.size = w.heap.size + 1 := Nat.ne_of_gt lb
    go_wp2_with fail
    go_region_with (first | (go_at_call 92; (first | (with_reducible refine (canonical_any x _).mono ?_) | (with_reducible refine (canonical_any y _).mono ?_)); rintro e w1 ⟨rfl, hb⟩; have hs : _ ≤ w1.heap.size := hb.size; (try simp at hs); obtain ⟨hc, hf, hl, hn, hm⟩ := behind hb; have o_p0 : Own (w1) (w.heap.size) 0 (.int .i64 x.1) := ownJ; obtain ⟨p0, f_p0⟩ := o_p0; have o_p1 : Own (w1) (w.heap.size) 1 (.int .i64 x.2) := ownJ; obtain ⟨p1, f_p1⟩ := o_p1; have o_q0 : Own (w1) (w.heap.size + 1) 0 (.int .i64 y.1) := ownJ; obtain ⟨q0, f_q0⟩ := o_q0; have o_q1 : Own (w1) (w.heap.size + 1) 1 (.int .i64 y.2) := ownJ; obtain ⟨q1, f_q1⟩ := o_q1; have o_r0 : Own (w1) (w.heap.size + 1 + 1) 0 (.int .i64 0) := ownJ; obtain ⟨r0, f_r0⟩ := o_r0; have o_r1 : Own (w1) (w.heap.size + 1 + 1) 1 (.int .i64 0) := ownJ; obtain ⟨r1, f_r1⟩ := o_r1))
    all_goals (have o_p0 : Own (w1) (w.heap.size) 0 (.int .i64 x.1) := ownJ; obtain ⟨p0, f_p0⟩ := o_p0; have o_p1 : Own (w1) (w.heap.size) 1 (.int .i64 x.2) := ownJ; obtain ⟨p1, f_p1⟩ := o_p1; have o_q0 : Own (w1) (w.heap.size + 1) 0 (.int .i64 y.1) := ownJ; obtain ⟨q0, f_q0⟩ := o_q0; have o_q1 : Own (w1) (w.heap.size + 1) 1 (.int .i64 y.2) := ownJ; obtain ⟨q1, f_q1⟩ := o_q1; have o_r0 : Own (w1) (w.heap.size + 1 + 1) 0 (.int .i64 0) := ownJ; obtain ⟨r0, f_r0⟩ := o_r0; have o_r1 : Own (w1) (w.heap.size + 1 + 1) 1 (.int .i64 0) := ownJ; obtain ⟨r1, f_r1⟩ := o_r1; go_wp2; exact bodyPost_ret (v := .tuple #[.agg #[.int .i64 (max (can x).1 (can y).1), .int .i64 (min (can x).2 (can y).2)], .bool true]) (by simp [results, Tryz.results76, go_sem, p0, p1, q0, q1, r0, r1]) rfl ⟨(by first | (rw [E.out]; done) | (rw [E.out]; rfl) | (simp [E.out]; done)), (by repeat (first | (with_reducible exact Below.refl _ _) | (with_reducible refine Below.drew ?_) | (with_reducible refine below_dn ?_ _) | (refine Below.setCell ?_ (by first | omega | (simp; done) | (simp; omega)) _) | (refine Below.alloc ?_ (by first | omega | (simp; done) | (simp; omega)) _) | (refine Below.trans ?_ (Below.mono (by assumption) (by first | omega | (simp; done) | (simp; omega))))))⟩)
end Go.Proofs.YtmikjgbojknlnaaGreatDoor
