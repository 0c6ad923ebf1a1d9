/- Contracts of products with powers of 2, of wider intervals and of ends, program and model. Conditions: numbers are int64. -/
import Derived.Test.YtmikjgbojknlnaaGreatDoorExN
import Derived.Test.YtmikjgbojknlnaaGreatDoorAtZ
import Derived.Test.YtmikjgbojknlnaaGreatDoorIvA
import Derived.Test.YtmikjgbojknlnaaGreatDoorIvD
import Derived.Test.YtmikjgbojknlnaaGreatDoorIvM
import Derived.Test.YtmikjgbojknlnaaGreatDoorIvLd
import Derived.Deep.RegionHeld3
import Derived.Outline
namespace Go.Proofs.YtmikjgbojknlnaaGreatDoor
open Go.ChangeShapes Go.WideShapes Go.ChangeAt Go.RowKit
set_option linter.unusedVariables false
set_option maxRecDepth 100000
set_option linter.unusedSimpArgs false
set_option maxHeartbeats 1000000
/-- A condition that holds throughout. -/
def StayS (C : World → Prop) (L : Array Bool) (u : World) : Prop := C u
theorem StayS.mk {C : World → Prop} {L : Array Bool} {u : World} (h : C u) : StayS C L u := h
theorem wrap_same (n : Int) : IntKind.i64.wrap n = wrap64 n := by rw [wrap64_def, IntKind.wrap_i64]
theorem neg_ok {x : Int} (h : -9223372036854775807 ≤ x) (k : x ≤ 9223372036854775807) : IntKind.i64.wrap (-x) = -x := wrapS (by unfold In64; omega)
theorem shr_wrap {x : Iv} (h : InF x.2) (j : Nat) : IntKind.i64.wrap (-(-x.2 / 2 ^ j)) = -(-x.2 / 2 ^ j) := by
  unfold InF at h
  exact wrapS (neg_div_in (by unfold In64; omega) j (by omega))
theorem one_fix : intI 1 = (4294967296, 4294967296) := by decide
theorem make_one {n : Int} (h : FixN n) : can (n, n) = (n, n) := can_yes (by unfold FixN at h; unfold Bnd; simp only; omega)
theorem timesTwos_neg (x : Iv) (hx : InF x.2) (j : Int) (h0 : 0 < j) (h1 : j ≤ 62) (w : World) : Calls Tryz.prog 198 #[.agg #[.int .i64 x.1, .int .i64 x.2], .int .i64 (-j)] w fun e w' =>
    e = .returned (.agg #[.int .i64 (shfI x (-j)).1, .int .i64 (shfI x (-j)).2]) ∧ Below w.heap.size w w' := by
  have E := Lib.hid (show shfI x (-j) = can (x.1 / 2 ^ j.toNat, -(-x.2 / 2 ^ j.toNat)) by rw [shf_neg (by omega), Int.neg_neg])
  have I := fun w => interval_any (x.1 / 2 ^ j.toNat) (-(-x.2 / 2 ^ j.toNat)) true w
  rw [kn_yes rfl] at I
  have I' := Lib.hid I
  have W1 : IntKind.i64.wrap (-x.2) = -x.2 := by unfold InF at hx; exact neg_ok (by omega) (by omega)
  have W2 := shr_wrap hx j.toNat
  have W0 : IntKind.i64.wrap j = j := wrapS (by unfold In64; omega)
  have s0 : decide (-j < 0) = true := decide_eq_true (by omega)
  clear I
  generalize can (x.1 / 2 ^ j.toNat, -(-x.2 / 2 ^ j.toNat)) = z at *
  go_enter Tryz.func198, Tryz.ntmps198
  go_wp2_with fail
  obtain ⟨hlt2, hlt3, hlt4, hlt5, hlt6, hlt7, hlt8, hlt9, hlt10, hlt11⟩ := below_add; go_region_held3 (fun w' => w'.cell? ⟨w.heap.size, 0, none⟩ = some (.int .i64 x.1) ∧ w'.cell? ⟨w.heap.size, 1, none⟩ = some (.int .i64 x.2)) (first | (with_reducible exact ((And.imp (cell_kept (by assumption)) (cell_kept (by assumption))) (by assumption))) | (with_reducible exact ((And.imp (cell_alloc) (cell_alloc)) (by assumption))) | (with_reducible exact ((And.imp (fun h => cell_far (by first | (simp; done) | (simp; omega)) (cell_far (by first | (simp; done) | (simp; omega)) h)) (fun h => cell_far (by first | (simp; done) | (simp; omega)) (cell_far (by first | (simp; done) | (simp; omega)) h))) (by assumption))) | (refine ⟨?_, ?_⟩ <;> repeat (first | (with_reducible assumption) | (with_reducible refine cell_far (by first | (simp; done) | (simp; omega)) ?_) | (with_reducible refine cell_drew ?_) | (with_reducible refine cell_drewN ?_) | (with_reducible refine cell_kept (by assumption) ?_) | (simp [go_sem]; done) | (with_reducible refine cell_alloc ?_))) | (simp [go_sem, *]; done)) ((go_at_call 120; refine (I'.out _).mono ?_; rintro e w1 ⟨rfl, hb⟩; have hs : _ ≤ w1.heap.size := hb.size; (try simp at hs); obtain ⟨hc, hf, hl, hn, hm⟩ := behind hb))
  all_goals (go_wp2; have o_q10 : Own (w1) (w.heap.size + 1) 0 (.int .i64 0) := ownJ; obtain ⟨q10, f_q10⟩ := o_q10; have o_q11 : Own (w1) (w.heap.size + 1) 1 (.int .i64 0) := ownJ; obtain ⟨q11, f_q11⟩ := o_q11; exact bodyPost_ret (v := .agg #[.int .i64 (z).1, .int .i64 (z).2]) (by simp [results, Tryz.results198, go_sem, q10, q11]) rfl ⟨by rw [E.out], belB⟩)
theorem timesTwos_pos (x : Iv) (j : Int) (h0 : 0 ≤ j) (h1 : j ≤ 62) (w : World) : Calls Tryz.prog 198 #[.agg #[.int .i64 x.1, .int .i64 x.2], .int .i64 j] w fun e w' =>
    e = .returned (.agg #[.int .i64 (shfI x j).1, .int .i64 (shfI x j).2]) ∧ Below w.heap.size w w' := by
  have E := Lib.hid (show shfI x j = can (IntKind.i64.wrap (x.1 * 2 ^ j.toNat), IntKind.i64.wrap (x.2 * 2 ^ j.toNat)) from shf_pos h0)
  have I := fun w => interval_any (IntKind.i64.wrap (x.1 * 2 ^ j.toNat)) (IntKind.i64.wrap (x.2 * 2 ^ j.toNat)) true w
  rw [kn_yes rfl] at I
  have I' := Lib.hid I
  have s0 : decide (j < 0) = false := decide_eq_false (by omega)
  clear I
  generalize can (IntKind.i64.wrap (x.1 * 2 ^ j.toNat), IntKind.i64.wrap (x.2 * 2 ^ j.toNat)) = z at *
  go_enter Tryz.func198, Tryz.ntmps198
  go_wp2_with fail
  obtain ⟨hlt2, hlt3, hlt4, hlt5, hlt6, hlt7, hlt8, hlt9, hlt10, hlt11⟩ := below_add; go_region_held3 (fun w' => w'.cell? ⟨w.heap.size, 0, none⟩ = some (.int .i64 x.1) ∧ w'.cell? ⟨w.heap.size, 1, none⟩ = some (.int .i64 x.2)) (first | (with_reducible exact ((And.imp (cell_kept (by assumption)) (cell_kept (by assumption))) (by assumption))) | (with_reducible exact ((And.imp (cell_alloc) (cell_alloc)) (by assumption))) | (with_reducible exact ((And.imp (fun h => cell_far (by first | (simp; done) | (simp; omega)) (cell_far (by first | (simp; done) | (simp; omega)) h)) (fun h => cell_far (by first | (simp; done) | (simp; omega)) (cell_far (by first | (simp; done) | (simp; omega)) h))) (by assumption))) | (refine ⟨?_, ?_⟩ <;> repeat (first | (with_reducible assumption) | (with_reducible refine cell_far (by first | (simp; done) | (simp; omega)) ?_) | (with_reducible refine cell_drew ?_) | (with_reducible refine cell_drewN ?_) | (with_reducible refine cell_kept (by assumption) ?_) | (simp [go_sem]; done) | (with_reducible refine cell_alloc ?_))) | (simp [go_sem, *]; done)) ((go_at_call 120; refine (I'.out _).mono ?_; rintro e w1 ⟨rfl, hb⟩; have hs : _ ≤ w1.heap.size := hb.size; (try simp at hs); obtain ⟨hc, hf, hl, hn, hm⟩ := behind hb))
  all_goals (go_wp2; have o_q10 : Own (w1) (w.heap.size + 1) 0 (.int .i64 0) := ownJ; obtain ⟨q10, f_q10⟩ := o_q10; have o_q11 : Own (w1) (w.heap.size + 1) 1 (.int .i64 0) := ownJ; obtain ⟨q11, f_q11⟩ := o_q11; exact bodyPost_ret (v := .agg #[.int .i64 (z).1, .int .i64 (z).2]) (by simp [results, Tryz.results198, go_sem, q10, q11]) rfl ⟨by rw [E.out], belB⟩)
theorem timesTwos_any (x : Iv) (hx : InF x.2) (k : Int) (h0 : -62 ≤ k) (h1 : k ≤ 62) (w : World) : Calls Tryz.prog 198 #[.agg #[.int .i64 x.1, .int .i64 x.2], .int .i64 k] w fun e w' =>
    e = .returned (.agg #[.int .i64 (shfI x k).1, .int .i64 (shfI x k).2]) ∧ Below w.heap.size w w' := by
  by_cases c : 0 ≤ k
  · exact timesTwos_pos x k c h1 w
  · have h := timesTwos_neg x hx (-k) (by omega) (by omega) w
    rw [Int.neg_neg] at h
    exact h
theorem l08At_any (n : Int) (w : World) : Calls Tryz.prog 149 #[.int .i64 n] w fun e w' =>
    e = .returned (.agg #[.int .i64 (can (n, n)).1, .int .i64 (can (n, n)).2]) ∧ Below w.heap.size w w' := by
  go_enter Tryz.func149, Tryz.ntmps149
  go_wp2_with fail
  refine (l04Make_any n n _).mono ?_
  rintro e w1 ⟨rfl, hb1⟩
  have hs1 : _ ≤ w1.heap.size := hb1.size
  try simp at hs1
  have o_qr10 : Own (w1) (w.heap.size) 0 (.int .i64 0) := ownJ; obtain ⟨qr10, f_qr10⟩ := o_qr10; have o_qr11 : Own (w1) (w.heap.size) 1 (.int .i64 0) := ownJ; obtain ⟨qr11, f_qr11⟩ := o_qr11
  go_wp2
  exact bodyPost_ret (v := .agg #[.int .i64 (can (n, n)).1, .int .i64 (can (n, n)).2]) (by simp [results, Tryz.results149, go_sem, qr10, qr11]) rfl ⟨rfl, belB⟩
theorem l08One_any (w : World) : Calls Tryz.prog 151 #[] w fun e w' =>
    e = .returned (.agg #[.int .i64 (intI 1).1, .int .i64 (intI 1).2]) ∧ Below w.heap.size w w' := by
  have E := Lib.hid (show can (4294967296, 4294967296) = intI 1 by decide)
  have L := fun w => l08At_any 4294967296 w
  rw [E.out] at L
  go_enter Tryz.func151, Tryz.ntmps151
  go_wp2_with fail
  refine (L _).mono ?_
  rintro e w1 ⟨rfl, hb1⟩
  have hs1 : _ ≤ w1.heap.size := hb1.size
  try simp at hs1
  have o_qr10 : Own (w1) (w.heap.size) 0 (.int .i64 0) := ownJ; obtain ⟨qr10, f_qr10⟩ := o_qr10; have o_qr11 : Own (w1) (w.heap.size) 1 (.int .i64 0) := ownJ; obtain ⟨qr11, f_qr11⟩ := o_qr11
  go_wp2
  exact bodyPost_ret (v := .agg #[.int .i64 (intI 1).1, .int .i64 (intI 1).2]) (by simp [results, Tryz.results151, go_sem, qr10, qr11]) rfl ⟨rfl, belB⟩
theorem l08Widen_any (x : Iv) (hx : Res x) (w : World) : Calls Tryz.prog 195 #[.agg #[.int .i64 x.1, .int .i64 x.2], .int .i64 1] w fun e w' =>
    e = .returned (.agg #[.int .i64 (addI x tin).1, .int .i64 (addI x tin).2]) ∧ Below w.heap.size w w' := by
  have C := Lib.hid (fun w => l04Ok_any x w)
  have b := res_in' hx
  unfold InI at b
  have W1 : IntKind.i64.wrap (x.1 - 1) = x.1 - 1 := wrapS (by unfold In64; omega)
  have W2 : IntKind.i64.wrap (x.2 + 1) = x.2 + 1 := wrapS (by unfold In64; omega)
  have T : bnd tin = true := by decide
  cases a : bnd x
  · have A := Lib.hid a
    have E := Lib.hid (show addI x tin = whl by unfold addI; rw [a]; rfl)
    clear a
    go_enter Tryz.func195, Tryz.ntmps195
    go_wp2_with fail
    refine (C.out _).mono ?_
    rintro e w1 ⟨rfl, hb1⟩
    have hs1 : _ ≤ w1.heap.size := hb1.size
    try simp at hs1
    rw [A.out]
    have o_p10 : Own (w1) (w.heap.size) 0 (.int .i64 x.1) := ownJ; have p10 := o_p10.1; have f_p10 := o_p10.2; have o_p11 : Own (w1) (w.heap.size) 1 (.int .i64 x.2) := ownJ; have p11 := o_p11.1; have f_p11 := o_p11.2
    go_wp2_with fail
    refine (l04Whole_any _).mono ?_
    rintro e w2 ⟨rfl, hb2⟩
    have hs2 : _ ≤ w2.heap.size := hb2.size
    try simp at hs2
    have o_q20 : Own (w2) (w.heap.size + 1) 0 (.int .i64 0) := ownJ; obtain ⟨q20, f_q20⟩ := o_q20; have o_q21 : Own (w2) (w.heap.size + 1) 1 (.int .i64 0) := ownJ; obtain ⟨q21, f_q21⟩ := o_q21
    go_wp2
    exact bodyPost_ret (v := .agg #[.int .i64 (-1152921504606846976), .int .i64 1152921504606846976]) (by simp [results, Tryz.results195, go_sem, q20, q21]) rfl ⟨(by first | (rw [E.out]; done) | (rw [E.out]; rfl) | (simp [E.out]; done)), belB⟩
  · have A := Lib.hid a
    have E := Lib.hid (show addI x tin = can (x.1 - 1, x.2 + 1) by unfold addI; rw [a, T]; rfl)
    have I := Lib.hid (fun w => l04Make_any (x.1 - 1) (x.2 + 1) w)
    generalize can (x.1 - 1, x.2 + 1) = z at *
    clear a
    go_enter Tryz.func195, Tryz.ntmps195
    go_wp2_with fail
    refine (C.out _).mono ?_
    rintro e w1 ⟨rfl, hb1⟩
    have hs1 : _ ≤ w1.heap.size := hb1.size
    try simp at hs1
    rw [A.out]
    have o_p10 : Own (w1) (w.heap.size) 0 (.int .i64 x.1) := ownJ; have p10 := o_p10.1; have f_p10 := o_p10.2; have o_p11 : Own (w1) (w.heap.size) 1 (.int .i64 x.2) := ownJ; have p11 := o_p11.1; have f_p11 := o_p11.2
    have o_r10 : Own (w1) (w.heap.size + 1) 0 (.int .i64 0) := ownJ; have r10 := o_r10.1; have f_r10 := o_r10.2; have o_r11 : Own (w1) (w.heap.size + 1) 1 (.int .i64 0) := ownJ; have r11 := o_r11.1; have f_r11 := o_r11.2
    go_wp2_with fail
    refine (I.out _).mono ?_
    rintro e w2 ⟨rfl, hb2⟩
    have hs2 : _ ≤ w2.heap.size := hb2.size
    try simp at hs2
    have o_q20 : Own (w2) (w.heap.size + 1) 0 (.int .i64 0) := ownJ; obtain ⟨q20, f_q20⟩ := o_q20; have o_q21 : Own (w2) (w.heap.size + 1) 1 (.int .i64 0) := ownJ; obtain ⟨q21, f_q21⟩ := o_q21
    go_wp2
    exact bodyPost_ret (v := .agg #[.int .i64 (z).1, .int .i64 (z).2]) (by simp [results, Tryz.results195, go_sem, q20, q21]) rfl ⟨by rw [E.out], belB⟩
theorem l08Ends_any (x y : Iv) (w : World) : Calls Tryz.prog 97 #[.agg #[.int .i64 x.1, .int .i64 x.2], .agg #[.int .i64 y.1, .int .i64 y.2]] w fun e w' =>
    e = .returned (.agg #[.int .i64 (kn (bnd x && bnd y) (x.1, y.2)).1, .int .i64 (kn (bnd x && bnd y) (x.1, y.2)).2]) ∧ Below w.heap.size w w' := by
  have C := Lib.hid (fun w => l04Ok_any x w)
  have D := Lib.hid (fun w => l04Ok_any y w)
  obtain ⟨Z, hZ⟩ : ∃ Z, Z = kn (bnd x && bnd y) (x.1, y.2) := ⟨_, rfl⟩
  rw [← hZ]
  cases a : bnd x <;> cases b : bnd y
  · have HX := Lib.hid a
    have HY := Lib.hid b
    have E := Lib.hid (show Z = whl by rw [hZ, a, b]; rfl)
    clear a b hZ
    go_enter Tryz.func97, Tryz.ntmps97
    go_wp2_with fail
    refine (C.out _).mono ?_
    rintro e w1 ⟨rfl, hb1⟩
    have hs1 : _ ≤ w1.heap.size := hb1.size
    try simp at hs1
    rw [HX.out]
    have o_p10 : Own (w1) (w.heap.size) 0 (.int .i64 x.1) := ownJ; have p10 := o_p10.1; have f_p10 := o_p10.2; have o_p11 : Own (w1) (w.heap.size) 1 (.int .i64 x.2) := ownJ; have p11 := o_p11.1; have f_p11 := o_p11.2
    have o_s10 : Own (w1) (w.heap.size + 1) 0 (.int .i64 y.1) := ownJ; have s10 := o_s10.1; have f_s10 := o_s10.2; have o_s11 : Own (w1) (w.heap.size + 1) 1 (.int .i64 y.2) := ownJ; have s11 := o_s11.1; have f_s11 := o_s11.2
    go_wp2_with fail
    refine (l04Whole_any _).mono ?_
    rintro e w3 ⟨rfl, hb3⟩
    have hs3 : _ ≤ w3.heap.size := hb3.size
    try simp at hs3
    have o_q30 : Own (w3) (w.heap.size + 1 + 1) 0 (.int .i64 0) := ownJ; obtain ⟨q30, f_q30⟩ := o_q30; have o_q31 : Own (w3) (w.heap.size + 1 + 1) 1 (.int .i64 0) := ownJ; obtain ⟨q31, f_q31⟩ := o_q31
    go_wp2
    exact bodyPost_ret (v := .agg #[.int .i64 (-1152921504606846976), .int .i64 1152921504606846976]) (by simp [results, Tryz.results97, go_sem, q30, q31]) rfl ⟨(by first | (rw [E.out]; done) | (rw [E.out]; rfl) | (simp [E.out]; done)), belB⟩
  · have HX := Lib.hid a
    have HY := Lib.hid b
    have E := Lib.hid (show Z = whl by rw [hZ, a, b]; rfl)
    clear a b hZ
    go_enter Tryz.func97, Tryz.ntmps97
    go_wp2_with fail
    refine (C.out _).mono ?_
    rintro e w1 ⟨rfl, hb1⟩
    have hs1 : _ ≤ w1.heap.size := hb1.size
    try simp at hs1
    rw [HX.out]
    have o_p10 : Own (w1) (w.heap.size) 0 (.int .i64 x.1) := ownJ; have p10 := o_p10.1; have f_p10 := o_p10.2; have o_p11 : Own (w1) (w.heap.size) 1 (.int .i64 x.2) := ownJ; have p11 := o_p11.1; have f_p11 := o_p11.2
    have o_s10 : Own (w1) (w.heap.size + 1) 0 (.int .i64 y.1) := ownJ; have s10 := o_s10.1; have f_s10 := o_s10.2; have o_s11 : Own (w1) (w.heap.size + 1) 1 (.int .i64 y.2) := ownJ; have s11 := o_s11.1; have f_s11 := o_s11.2
    go_wp2_with fail
    refine (l04Whole_any _).mono ?_
    rintro e w3 ⟨rfl, hb3⟩
    have hs3 : _ ≤ w3.heap.size := hb3.size
    try simp at hs3
    have o_q30 : Own (w3) (w.heap.size + 1 + 1) 0 (.int .i64 0) := ownJ; obtain ⟨q30, f_q30⟩ := o_q30; have o_q31 : Own (w3) (w.heap.size + 1 + 1) 1 (.int .i64 0) := ownJ; obtain ⟨q31, f_q31⟩ := o_q31
    go_wp2
    exact bodyPost_ret (v := .agg #[.int .i64 (-1152921504606846976), .int .i64 1152921504606846976]) (by simp [results, Tryz.results97, go_sem, q30, q31]) rfl ⟨(by first | (rw [E.out]; done) | (rw [E.out]; rfl) | (simp [E.out]; done)), belB⟩
  · have HX := Lib.hid a
    have HY := Lib.hid b
    have E := Lib.hid (show Z = whl by rw [hZ, a, b]; rfl)
    clear a b hZ
    go_enter Tryz.func97, Tryz.ntmps97
    go_wp2_with fail
    refine (C.out _).mono ?_
    rintro e w1 ⟨rfl, hb1⟩
    have hs1 : _ ≤ w1.heap.size := hb1.size
    try simp at hs1
    rw [HX.out]
    have o_p10 : Own (w1) (w.heap.size) 0 (.int .i64 x.1) := ownJ; have p10 := o_p10.1; have f_p10 := o_p10.2; have o_p11 : Own (w1) (w.heap.size) 1 (.int .i64 x.2) := ownJ; have p11 := o_p11.1; have f_p11 := o_p11.2
    have o_s10 : Own (w1) (w.heap.size + 1) 0 (.int .i64 y.1) := ownJ; have s10 := o_s10.1; have f_s10 := o_s10.2; have o_s11 : Own (w1) (w.heap.size + 1) 1 (.int .i64 y.2) := ownJ; have s11 := o_s11.1; have f_s11 := o_s11.2
    go_wp2_with fail
    refine (D.out _).mono ?_
    rintro e w2 ⟨rfl, hb2⟩
    have hs2 : _ ≤ w2.heap.size := hb2.size
    try simp at hs2
    rw [HY.out]
    have o_p20 : Own (w2) (w.heap.size) 0 (.int .i64 x.1) := ownJ; have p20 := o_p20.1; have f_p20 := o_p20.2; have o_p21 : Own (w2) (w.heap.size) 1 (.int .i64 x.2) := ownJ; have p21 := o_p21.1; have f_p21 := o_p21.2
    have o_s20 : Own (w2) (w.heap.size + 1) 0 (.int .i64 y.1) := ownJ; have s20 := o_s20.1; have f_s20 := o_s20.2; have o_s21 : Own (w2) (w.heap.size + 1) 1 (.int .i64 y.2) := ownJ; have s21 := o_s21.1; have f_s21 := o_s21.2
    go_wp2_with fail
    refine (l04Whole_any _).mono ?_
    rintro e w3 ⟨rfl, hb3⟩
    have hs3 : _ ≤ w3.heap.size := hb3.size
    try simp at hs3
    have o_q30 : Own (w3) (w.heap.size + 1 + 1) 0 (.int .i64 0) := ownJ; obtain ⟨q30, f_q30⟩ := o_q30; have o_q31 : Own (w3) (w.heap.size + 1 + 1) 1 (.int .i64 0) := ownJ; obtain ⟨q31, f_q31⟩ := o_q31
    go_wp2
    exact bodyPost_ret (v := .agg #[.int .i64 (-1152921504606846976), .int .i64 1152921504606846976]) (by simp [results, Tryz.results97, go_sem, q30, q31]) rfl ⟨(by first | (rw [E.out]; done) | (rw [E.out]; rfl) | (simp [E.out]; done)), belB⟩
  · have HX := Lib.hid a
    have HY := Lib.hid b
    have E := Lib.hid (show Z = can (x.1, y.2) by rw [hZ, a, b]; rfl)
    clear a b hZ
    have I := Lib.hid (fun w => l04Make_any x.1 y.2 w)
    generalize can (x.1, y.2) = z at *
    go_enter Tryz.func97, Tryz.ntmps97
    go_wp2_with fail
    refine (C.out _).mono ?_
    rintro e w1 ⟨rfl, hb1⟩
    have hs1 : _ ≤ w1.heap.size := hb1.size
    try simp at hs1
    rw [HX.out]
    have o_p10 : Own (w1) (w.heap.size) 0 (.int .i64 x.1) := ownJ; have p10 := o_p10.1; have f_p10 := o_p10.2; have o_p11 : Own (w1) (w.heap.size) 1 (.int .i64 x.2) := ownJ; have p11 := o_p11.1; have f_p11 := o_p11.2
    have o_s10 : Own (w1) (w.heap.size + 1) 0 (.int .i64 y.1) := ownJ; have s10 := o_s10.1; have f_s10 := o_s10.2; have o_s11 : Own (w1) (w.heap.size + 1) 1 (.int .i64 y.2) := ownJ; have s11 := o_s11.1; have f_s11 := o_s11.2
    go_wp2_with fail
    refine (D.out _).mono ?_
    rintro e w2 ⟨rfl, hb2⟩
    have hs2 : _ ≤ w2.heap.size := hb2.size
    try simp at hs2
    rw [HY.out]
    have o_p20 : Own (w2) (w.heap.size) 0 (.int .i64 x.1) := ownJ; have p20 := o_p20.1; have f_p20 := o_p20.2; have o_p21 : Own (w2) (w.heap.size) 1 (.int .i64 x.2) := ownJ; have p21 := o_p21.1; have f_p21 := o_p21.2
    have o_s20 : Own (w2) (w.heap.size + 1) 0 (.int .i64 y.1) := ownJ; have s20 := o_s20.1; have f_s20 := o_s20.2; have o_s21 : Own (w2) (w.heap.size + 1) 1 (.int .i64 y.2) := ownJ; have s21 := o_s21.1; have f_s21 := o_s21.2
    go_wp2_with fail
    refine (I.out _).mono ?_
    rintro e w3 ⟨rfl, hb3⟩
    have hs3 : _ ≤ w3.heap.size := hb3.size
    try simp at hs3
    have o_q30 : Own (w3) (w.heap.size + 1 + 1) 0 (.int .i64 0) := ownJ; obtain ⟨q30, f_q30⟩ := o_q30; have o_q31 : Own (w3) (w.heap.size + 1 + 1) 1 (.int .i64 0) := ownJ; obtain ⟨q31, f_q31⟩ := o_q31
    go_wp2
    exact bodyPost_ret (v := .agg #[.int .i64 (z).1, .int .i64 (z).2]) (by simp [results, Tryz.results97, go_sem, q30, q31]) rfl ⟨by rw [E.out], belB⟩
end Go.Proofs.YtmikjgbojknlnaaGreatDoor
