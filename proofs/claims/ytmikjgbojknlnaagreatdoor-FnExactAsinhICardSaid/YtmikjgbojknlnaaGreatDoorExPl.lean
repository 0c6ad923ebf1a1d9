/- Contracts of logarithms and of inverse hyperbolic functions of intervals in the program. Conditions: numbers are int64; the program's interval is laid. -/
import Derived.Test.YtmikjgbojknlnaaGreatDoorExZo
import Derived.Test.YtmikjgbojknlnaaGreatDoorExZg
import Derived.Test.YtmikjgbojknlnaaGreatDoorIvD
import Derived.Test.YtmikjgbojknlnaaGreatDoorIvF
import Derived.Test.YtmikjgbojknlnaaGreatDoorIvT
import Derived.Deep.RegionHeld3
import Derived.Outline
namespace Go.Proofs.YtmikjgbojknlnaaGreatDoor
open Go.ChangeShapes Go.WideShapes Go.ChangeAt Go.RowKit
set_option linter.unusedVariables false
set_option maxRecDepth 100000
set_option linter.unusedSimpArgs false
set_option maxHeartbeats 1000000
theorem mono_L (x : Iv) (hx : Ok x) (b : Nat) (w : World) (hg : GloT w) (c0 : Own w b 0 (.func (Fn.func 157) #[] #[])) : Calls Tryz.prog 154 #[.agg #[.int .i64 x.1, .int .i64 x.2], .pointer (some ⟨b, 0, none⟩)] w fun e w' =>
    e = .returned (.agg #[.int .i64 (monI (logF) x).1, .int .i64 (monI (logF) x).2]) ∧ Below w.heap.size w w' :=
  mono_any 157 #[] (fun va w => by kernel_rfl) (logF) GloT (fun w w' h k => h.kept k) (fun w h => h.drew) (fun w o h => h.alloc o) (fun n w hn h => (show Calls Tryz.prog 157 #[.int .i64 n] w fun e w' => e = .returned (.agg #[.int .i64 (logF n).1, .int .i64 (logF n).2]) ∧ Below w.heap.size w w' from LogAt_any n w h)) x hx b w hg c0
theorem LogI_any (x : Iv) (hx : Ok x) (w : World) (hg : GloT w) : Calls Tryz.prog 158 #[.agg #[.int .i64 x.1, .int .i64 x.2]] w fun e w' =>
    e = .returned (.agg #[.int .i64 (monI logF x).1, .int .i64 (monI logF x).2]) ∧ Below w.heap.size w w' := by
  have lgl := hg.lt
  obtain ⟨g2, g3⟩ := id hg
  have l1 : 1 < w.heap.size := World.block_lt_of_cell? _ _ g2
  have M := Lib.hid (fun b w hg c0 => mono_L x hx b w hg c0)
  generalize monI logF x = z at *
  go_enter Tryz.func158, Tryz.ntmps158
  go_wp2_with fail
  have z0 := pslot_of (w := ((w.alloc (.cells #[.int .i64 x.1, .int .i64 x.2] 26)).alloc (.cells #[.int .i64 0, .int .i64 0] 26))) (a := ⟨w.heap.size + 1, 0, none⟩) (v := .int .i64 0) (by simp [go_sem]) (by simp [go_sem])
  have z1 := pslot_of (w := ((w.alloc (.cells #[.int .i64 x.1, .int .i64 x.2] 26)).alloc (.cells #[.int .i64 0, .int .i64 0] 26))) (a := ⟨w.heap.size + 1, 1, none⟩) (v := .int .i64 0) (by simp [go_sem]) (by simp [go_sem])
  obtain ⟨hlt2, hlt3, hlt4, hlt5, hlt6, hlt7, hlt8, hlt9, hlt10, hlt11⟩ := below_add; go_region_held3 (fun w' => w'.cell? ⟨w.heap.size, 0, none⟩ = some (.int .i64 x.1) ∧ w'.cell? ⟨w.heap.size, 1, none⟩ = some (.int .i64 x.2) ∧ w'.cell? ⟨1, 0, none⟩ = some (.int .i64 (-1)) ∧ w'.cell? ⟨1, 1, none⟩ = some (.int .i64 1) ∧ (w'.cell? ⟨w.heap.size + 1, 0, none⟩ = some (peek w' ⟨w.heap.size + 1, 0, none⟩) ∧ w'.frozen? ⟨w.heap.size + 1, 0, none⟩ = false) ∧ (w'.cell? ⟨w.heap.size + 1, 1, none⟩ = some (peek w' ⟨w.heap.size + 1, 1, none⟩) ∧ w'.frozen? ⟨w.heap.size + 1, 1, none⟩ = false)) (first | (with_reducible exact ((And.imp (cell_kept (by assumption)) (And.imp (cell_kept (by assumption)) (And.imp (cell_kept (by assumption)) (And.imp (cell_kept (by assumption)) (And.imp (pslot_kept (by assumption)) (pslot_kept (by assumption))))))) (by assumption))) | (with_reducible exact ((And.imp (cell_alloc) (And.imp (cell_alloc) (And.imp (cell_alloc) (And.imp (cell_alloc) (And.imp (pslot_alloc) (pslot_alloc)))))) (by assumption))) | (with_reducible exact ((And.imp (fun h => cell_far (by first | (simp; done) | (simp; omega) | (dsimp only; omega)) (cell_far (by first | (simp; done) | (simp; omega) | (dsimp only; omega)) h)) (And.imp (fun h => cell_far (by first | (simp; done) | (simp; omega) | (dsimp only; omega)) (cell_far (by first | (simp; done) | (simp; omega) | (dsimp only; omega)) h)) (And.imp (fun h => cell_far (by first | (simp; done) | (simp; omega) | (dsimp only; omega)) (cell_far (by first | (simp; done) | (simp; omega) | (dsimp only; omega)) h)) (And.imp (fun h => cell_far (by first | (simp; done) | (simp; omega) | (dsimp only; omega)) (cell_far (by first | (simp; done) | (simp; omega) | (dsimp only; omega)) h)) (And.imp (fun h => pslot_set (pslot_set h)) (fun h => pslot_set (pslot_set h))))))) (by assumption))) | (refine ⟨?_, ?_, ?_, ?_, ?_, ?_⟩ <;> repeat (first | (with_reducible assumption) | (with_reducible refine cell_far (by first | (simp; done) | (simp; omega) | (dsimp only; omega)) ?_) | (with_reducible refine cell_drew ?_) | (with_reducible refine cell_drewN ?_) | (with_reducible refine cell_kept (by assumption) ?_) | (with_reducible exact pslot_of (by assumption) (by assumption)) | (with_reducible refine pslot_drew ?_) | (with_reducible refine pslot_kept (by assumption) ?_) | (with_reducible refine pslot_alloc ?_) | (simp [go_sem]; done) | (with_reducible refine cell_alloc ?_))) | (simp [go_sem, *]; done)) (first | (go_at_call 99; refine (monotonic_any _ _ _).mono ?_; rintro e w1 ⟨rfl, rfl⟩) | (go_at_call 154; refine (M.out _ _ (GloT.mk (by simp [go_sem, *]) (by simp [go_sem, *])) ⟨(by simp [go_sem, *]), (by simp [go_sem, *])⟩).mono ?_; rintro e w1 ⟨rfl, hb⟩; have hs : _ ≤ w1.heap.size := hb.size; (try simp at hs); obtain ⟨hc, hf, hl, hn, hm⟩ := behind hb))
  all_goals (go_wp2; have o_j0 : Own (w1) (w.heap.size + 1) 0 (.int .i64 0) := ownJ; obtain ⟨j0, f_j0⟩ := o_j0; have o_j1 : Own (w1) (w.heap.size + 1) 1 (.int .i64 0) := ownJ; obtain ⟨j1, f_j1⟩ := o_j1; exact bodyPost_ret (v := .agg #[.int .i64 (z).1, .int .i64 (z).2]) (by simp [results, Tryz.results158, go_sem, j0, j1]) rfl ⟨rfl, belB⟩)
set_option maxHeartbeats 4000000 in
theorem oddCl (fn : Nat) (hcf : ∀ (va : Array Value) (w : World), (callFunc fn va).run Tryz.prog w = .ok (.enter fn va) w) (f : Int → Iv) (hf : ∀ (n : Int) (w : World), FixN n → 0 ≤ n → GloT w → Calls Tryz.prog fn #[.int .i64 n] w fun e w' => e = .returned (.agg #[.int .i64 (f n).1, .int .i64 (f n).2]) ∧ Below w.heap.size w w') (n : Int) (h : FixN n) (b : Nat) (w : World) (hg : GloT w) (c0 : w.cell? ⟨b, 0, none⟩ = some (.func (Fn.func fn) #[] #[])) : Calls Tryz.prog 155 #[.int .i64 n, .pointer (some ⟨b, 0, none⟩)] w fun e w' =>
    e = .returned (.agg #[.int .i64 (oddF f n).1, .int .i64 (oddF f n).2]) ∧ Below w.heap.size w w' := by
  have lb : b < w.heap.size := World.block_lt_of_cell? _ _ c0
  have lgl := hg.lt
  obtain ⟨n0, n1⟩ := id h
  have WN : IntKind.i64.wrap (-n) = -n := wrapS (by unfold In64; omega)
  by_cases s : n < 0
  · have A := Lib.hid (fun w hg => hf (-n) w (by unfold FixN; omega) (by omega) hg)
    have N := Lib.hid (fun w => NegI_any (f (-n)) w)
    have E := Lib.hid (show oddF f n = negI (f (-n)) from if_pos s)
    clear hf h
    generalize negI (f (-n)) = z at *
    generalize f (-n) = a at *
    go_enter Tryz.func155, Tryz.ntmps155
    go_wp2_with fail
    refine (A.out _ (by repeat (first | (with_reducible assumption) | (with_reducible refine GloT.drew ?_) | (with_reducible refine GloT.kept ?_ (by assumption)) | (with_reducible refine GloT.alloc ?_ _)))).mono ?_
    rintro e w1 ⟨rfl, hb1⟩
    have hs1 : _ ≤ w1.heap.size := hb1.size
    try simp at hs1
    have o_q10 : Own (w1) (w.heap.size) 0 (.int .i64 0) := ownJ; have q10 := o_q10.1; have f_q10 := o_q10.2; have o_q11 : Own (w1) (w.heap.size) 1 (.int .i64 0) := ownJ; have q11 := o_q11.1; have f_q11 := o_q11.2
    go_wp2_with fail
    refine (N.out _).mono ?_
    rintro e w2 ⟨rfl, hb2⟩
    have hs2 : _ ≤ w2.heap.size := hb2.size
    try simp at hs2
    have o_q20 : Own (w2) (w.heap.size) 0 (.int .i64 0) := ownJ; obtain ⟨q20, f_q20⟩ := o_q20; have o_q21 : Own (w2) (w.heap.size) 1 (.int .i64 0) := ownJ; obtain ⟨q21, f_q21⟩ := o_q21
    go_wp2
    exact bodyPost_ret (v := .agg #[.int .i64 (z).1, .int .i64 (z).2]) (by simp [results, Tryz.results155, go_sem, q20, q21]) rfl ⟨by rw [E.out], belB⟩
  · have A := Lib.hid (fun w hg => hf n w h (by omega) hg)
    have E := Lib.hid (show oddF f n = f n from if_neg s)
    clear hf h
    generalize oddF f n = Y at *
    generalize f n = z at *
    go_enter Tryz.func155, Tryz.ntmps155
    go_wp2_with fail
    refine (A.out _ (by repeat (first | (with_reducible assumption) | (with_reducible refine GloT.drew ?_) | (with_reducible refine GloT.kept ?_ (by assumption)) | (with_reducible refine GloT.alloc ?_ _)))).mono ?_
    rintro e w1 ⟨rfl, hb1⟩
    have hs1 : _ ≤ w1.heap.size := hb1.size
    try simp at hs1
    have o_q10 : Own (w1) (w.heap.size) 0 (.int .i64 0) := ownJ; obtain ⟨q10, f_q10⟩ := o_q10; have o_q11 : Own (w1) (w.heap.size) 1 (.int .i64 0) := ownJ; obtain ⟨q11, f_q11⟩ := o_q11
    go_wp2
    exact bodyPost_ret (v := .agg #[.int .i64 (z).1, .int .i64 (z).2]) (by simp [results, Tryz.results155, go_sem, q10, q11]) rfl ⟨by rw [E.out], belB⟩
theorem asinhAt_any (n : Int) (h : FixN n) (p : 0 ≤ n) (w : World) (hg : GloT w) : Calls Tryz.prog 101 #[.int .i64 n] w fun e w' =>
    e = .returned (.agg #[.int .i64 (asihP n).1, .int .i64 (asihP n).2]) ∧ Below w.heap.size w w' := by
  obtain ⟨n0, n1⟩ := id h
  have lgl := hg.lt
  by_cases c : 35184372088832 < n
  · have E := Lib.hid (show asihP n = addI (addI (ln2 1) (logF n)) (0, 16) from if_pos c)
    have c0 : decide (35184372088832 < n) = true := decide_eq_true c
    have L2 := Lib.hid (fun w => LogTwoI_any 1 w)
    have LA := Lib.hid (fun w hg => LogAt_any n w hg)
    have A1 := Lib.hid (fun w => AddI_any (ln2 1) (logF n) w)
    have A2 := Lib.hid (fun w => AddI_any (addI (ln2 1) (logF n)) (0, 16) w)
    clear c h
    generalize asihP n = Y at *
    generalize addI (addI (ln2 1) (logF n)) (0, 16) = z at *
    generalize addI (ln2 1) (logF n) = s at *
    generalize logF n = l at *
    generalize ln2 1 = t at *
    go_enter Tryz.func101, Tryz.ntmps101
    go_wp2_with fail
    refine (L2.out _).mono ?_
    rintro e w1 ⟨rfl, hb1⟩
    have hs1 : _ ≤ w1.heap.size := hb1.size
    try simp at hs1
    have o_q10 : Own (w1) (w.heap.size) 0 (.int .i64 0) := ownJ; have q10 := o_q10.1; have f_q10 := o_q10.2; have o_q11 : Own (w1) (w.heap.size) 1 (.int .i64 0) := ownJ; have q11 := o_q11.1; have f_q11 := o_q11.2
    go_wp2_with fail
    refine (LA.out _ (by repeat (first | (with_reducible assumption) | (with_reducible refine GloT.drew ?_) | (with_reducible refine GloT.kept ?_ (by assumption)) | (with_reducible refine GloT.alloc ?_ _)))).mono ?_
    rintro e w2 ⟨rfl, hb2⟩
    have hs2 : _ ≤ w2.heap.size := hb2.size
    try simp at hs2
    have o_q20 : Own (w2) (w.heap.size) 0 (.int .i64 0) := ownJ; have q20 := o_q20.1; have f_q20 := o_q20.2; have o_q21 : Own (w2) (w.heap.size) 1 (.int .i64 0) := ownJ; have q21 := o_q21.1; have f_q21 := o_q21.2
    go_wp2_with fail
    refine (A1.out _).mono ?_
    rintro e w3 ⟨rfl, hb3⟩
    have hs3 : _ ≤ w3.heap.size := hb3.size
    try simp at hs3
    have o_q30 : Own (w3) (w.heap.size) 0 (.int .i64 0) := ownJ; have q30 := o_q30.1; have f_q30 := o_q30.2; have o_q31 : Own (w3) (w.heap.size) 1 (.int .i64 0) := ownJ; have q31 := o_q31.1; have f_q31 := o_q31.2
    go_wp2_with fail
    refine (A2.out _).mono ?_
    rintro e w4 ⟨rfl, hb4⟩
    have hs4 : _ ≤ w4.heap.size := hb4.size
    try simp at hs4
    have o_q40 : Own (w4) (w.heap.size) 0 (.int .i64 0) := ownJ; obtain ⟨q40, f_q40⟩ := o_q40; have o_q41 : Own (w4) (w.heap.size) 1 (.int .i64 0) := ownJ; obtain ⟨q41, f_q41⟩ := o_q41
    go_wp2
    exact bodyPost_ret (v := .agg #[.int .i64 (z).1, .int .i64 (z).2]) (by simp [results, Tryz.results101, go_sem, q40, q41]) rfl ⟨by rw [E.out], belB⟩
  · have E := Lib.hid (show asihP n = monI logF (addI (n, n) (sqrtI (addI (sqrI (n, n)) (intI 1)))) from if_neg c)
    have c0 : decide (35184372088832 < n) = false := decide_eq_false c
    have SG := Lib.hid (fun w => single_any n w)
    have Q := Lib.hid (fun w => SqrI_any (n, n) w)
    have I1 := Lib.hid (fun w => Integer_any 1 (by unfold In64; omega) w)
    have A1 := Lib.hid (fun w => AddI_any (sqrI (n, n)) (intI 1) w)
    have R := Lib.hid (fun w => SqrtI_any (addI (sqrI (n, n)) (intI 1)) (res_ok (add_res _ _)) w)
    have A2 := Lib.hid (fun w => AddI_any (n, n) (sqrtI (addI (sqrI (n, n)) (intI 1))) w)
    have LI := Lib.hid (fun w hg => LogI_any (addI (n, n) (sqrtI (addI (sqrI (n, n)) (intI 1)))) (res_ok (add_res _ _)) w hg)
    clear c h
    generalize asihP n = Y at *
    generalize monI logF (addI (n, n) (sqrtI (addI (sqrI (n, n)) (intI 1)))) = z at *
    generalize addI (n, n) (sqrtI (addI (sqrI (n, n)) (intI 1))) = a2 at *
    generalize sqrtI (addI (sqrI (n, n)) (intI 1)) = r at *
    generalize addI (sqrI (n, n)) (intI 1) = a1 at *
    generalize sqrI (n, n) = q at *
    generalize intI 1 = i1 at *
    go_enter Tryz.func101, Tryz.ntmps101
    go_wp2_with fail
    refine (SG.out _).mono ?_
    rintro e w1 ⟨rfl, hb1⟩
    have hs1 : _ ≤ w1.heap.size := hb1.size
    try simp at hs1
    have o_q10 : Own (w1) (w.heap.size) 0 (.int .i64 0) := ownJ; have q10 := o_q10.1; have f_q10 := o_q10.2; have o_q11 : Own (w1) (w.heap.size) 1 (.int .i64 0) := ownJ; have q11 := o_q11.1; have f_q11 := o_q11.2
    have zz1 : w.heap.size < w1.heap.size := World.block_lt_of_cell? _ _ q10; obtain ⟨zz1a, zz1b, zz1c, zz1d, zz1e, zz1f, zz1g, zz1h, zz1i⟩ := below_more zz1; have zn1 : ¬ w.heap.size = w1.heap.size := Nat.ne_of_lt zz1; have zm1 : ¬ w1.heap.size = w.heap.size := Nat.ne_of_gt zz1
    have hg1 : GloT w1 := (by repeat (first | (with_reducible assumption) | (with_reducible refine GloT.drew ?_) | (with_reducible refine GloT.kept ?_ (by assumption)) | (with_reducible refine GloT.alloc ?_ _)))
    obtain ⟨g2, g3⟩ := id hg1
    have l1 : 1 < w1.heap.size := World.block_lt_of_cell? _ _ g2
    go_wp2_with fail
    have z0 := pslot_of (w := (w1.alloc (.cells #[.int .i64 n, .int .i64 n] 26))) (a := ⟨w.heap.size, 0, none⟩) (v := .int .i64 0) (own_alloc o_q10).1 (own_alloc o_q10).2
    have z1 := pslot_of (w := (w1.alloc (.cells #[.int .i64 n, .int .i64 n] 26))) (a := ⟨w.heap.size, 1, none⟩) (v := .int .i64 0) (own_alloc o_q11).1 (own_alloc o_q11).2
    obtain ⟨hlt2, hlt3, hlt4, hlt5, hlt6, hlt7, hlt8, hlt9, hlt10, hlt11⟩ := below_add; go_region_held3 (fun w' => w'.cell? ⟨w1.heap.size, 0, none⟩ = some (.int .i64 n) ∧ w'.cell? ⟨w1.heap.size, 1, none⟩ = some (.int .i64 n) ∧ w'.cell? ⟨1, 0, none⟩ = some (.int .i64 (-1)) ∧ w'.cell? ⟨1, 1, none⟩ = some (.int .i64 1) ∧ (w'.cell? ⟨w.heap.size, 0, none⟩ = some (peek w' ⟨w.heap.size, 0, none⟩) ∧ w'.frozen? ⟨w.heap.size, 0, none⟩ = false) ∧ (w'.cell? ⟨w.heap.size, 1, none⟩ = some (peek w' ⟨w.heap.size, 1, none⟩) ∧ w'.frozen? ⟨w.heap.size, 1, none⟩ = false)) (first | (with_reducible exact ((And.imp (cell_kept (by assumption)) (And.imp (cell_kept (by assumption)) (And.imp (cell_kept (by assumption)) (And.imp (cell_kept (by assumption)) (And.imp (pslot_kept (by assumption)) (pslot_kept (by assumption))))))) (by assumption))) | (with_reducible exact ((And.imp (cell_alloc) (And.imp (cell_alloc) (And.imp (cell_alloc) (And.imp (cell_alloc) (And.imp (pslot_alloc) (pslot_alloc)))))) (by assumption))) | (with_reducible exact ((And.imp (fun h => cell_far (by first | (simp; done) | (simp; omega) | (dsimp only; omega)) (cell_far (by first | (simp; done) | (simp; omega) | (dsimp only; omega)) h)) (And.imp (fun h => cell_far (by first | (simp; done) | (simp; omega) | (dsimp only; omega)) (cell_far (by first | (simp; done) | (simp; omega) | (dsimp only; omega)) h)) (And.imp (fun h => cell_far (by first | (simp; done) | (simp; omega) | (dsimp only; omega)) (cell_far (by first | (simp; done) | (simp; omega) | (dsimp only; omega)) h)) (And.imp (fun h => cell_far (by first | (simp; done) | (simp; omega) | (dsimp only; omega)) (cell_far (by first | (simp; done) | (simp; omega) | (dsimp only; omega)) h)) (And.imp (fun h => pslot_set (pslot_set h)) (fun h => pslot_set (pslot_set h))))))) (by assumption))) | (refine ⟨?_, ?_, ?_, ?_, ?_, ?_⟩ <;> repeat (first | (with_reducible assumption) | (with_reducible refine cell_far (by first | (simp; done) | (simp; omega) | (dsimp only; omega)) ?_) | (with_reducible refine cell_drew ?_) | (with_reducible refine cell_drewN ?_) | (with_reducible refine cell_kept (by assumption) ?_) | (with_reducible exact pslot_of (by assumption) (by assumption)) | (with_reducible refine pslot_drew ?_) | (with_reducible refine pslot_kept (by assumption) ?_) | (with_reducible refine pslot_alloc ?_) | (simp [go_sem]; done) | (with_reducible refine cell_alloc ?_))) | (simp [go_sem, *]; done)) (first | (go_at_call 160; refine (Q.out _).mono ?_; rintro e w1 ⟨rfl, hb⟩; have hs : _ ≤ w1.heap.size := hb.size; (try simp at hs); obtain ⟨hc, hf, hl, hn, hm⟩ := behind hb) | (go_at_call 74; refine (I1.out _).mono ?_; rintro e w1 ⟨rfl, hb⟩; have hs : _ ≤ w1.heap.size := hb.size; (try simp at hs); obtain ⟨hc, hf, hl, hn, hm⟩ := behind hb) | (go_at_call 73; with_reducible refine (A1.out _).mono ?_; rintro e w1 ⟨rfl, hb⟩; have hs : _ ≤ w1.heap.size := hb.size; (try simp at hs); obtain ⟨hc, hf, hl, hn, hm⟩ := behind hb) | (go_at_call 159; refine (R.out _).mono ?_; rintro e w1 ⟨rfl, hb⟩; have hs : _ ≤ w1.heap.size := hb.size; (try simp at hs); obtain ⟨hc, hf, hl, hn, hm⟩ := behind hb) | (go_at_call 73; with_reducible refine (A2.out _).mono ?_; rintro e w1 ⟨rfl, hb⟩; have hs : _ ≤ w1.heap.size := hb.size; (try simp at hs); obtain ⟨hc, hf, hl, hn, hm⟩ := behind hb) | (go_at_call 158; refine (LI.out _ (GloT.mk (by simp [go_sem, *]) (by simp [go_sem, *]))).mono ?_; rintro e w1 ⟨rfl, hb⟩; have hs : _ ≤ w1.heap.size := hb.size; (try simp at hs); obtain ⟨hc, hf, hl, hn, hm⟩ := behind hb))
    all_goals (go_wp2; have o_j0 : Own (w1) (w.heap.size) 0 (.int .i64 0) := ownJ; obtain ⟨j0, f_j0⟩ := o_j0; have o_j1 : Own (w1) (w.heap.size) 1 (.int .i64 0) := ownJ; obtain ⟨j1, f_j1⟩ := o_j1; exact bodyPost_ret (v := .agg #[.int .i64 (z).1, .int .i64 (z).2]) (by simp [results, Tryz.results101, go_sem, j0, j1]) rfl ⟨by rw [E.out], belB⟩)
theorem mono_A (x : Iv) (hx : Ok x) (b b2 : Nat) (w : World) (hg : GloT w) (c2 : w.cell? ⟨b2, 0, none⟩ = some (.func (Fn.func 101) #[] #[])) (c0 : Own w b 0 (.func (Fn.func 155) #[] #[.pointer (some ⟨b2, 0, none⟩)])) : Calls Tryz.prog 154 #[.agg #[.int .i64 x.1, .int .i64 x.2], .pointer (some ⟨b, 0, none⟩)] w fun e w' =>
    e = .returned (.agg #[.int .i64 (monI (oddF asihP) x).1, .int .i64 (monI (oddF asihP) x).2]) ∧ Below w.heap.size w w' :=
  mono_any 155 #[.pointer (some ⟨b2, 0, none⟩)] (fun va w => by kernel_rfl) (oddF asihP) (fun w => GloT w ∧ w.cell? ⟨b2, 0, none⟩ = some (.func (Fn.func 101) #[] #[])) (fun w w' h k => ⟨h.1.kept k, cell_kept k h.2⟩) (fun w h => ⟨h.1.drew, cell_drew h.2⟩) (fun w o h => ⟨h.1.alloc o, cell_alloc h.2⟩)
    (fun n w hn h => (show Calls Tryz.prog 155 #[.int .i64 n, .pointer (some ⟨b2, 0, none⟩)] w (fun e w' => e = .returned (.agg #[.int .i64 (oddF asihP n).1, .int .i64 (oddF asihP n).2]) ∧ Below w.heap.size w w') from oddCl 101 (fun va w => by kernel_rfl) asihP (fun n w hn p hg => asinhAt_any n hn p w hg) n hn b2 w h.1 h.2)) x hx b w ⟨hg, c2⟩ c0
theorem AsinhI_any (x : Iv) (hx : Ok x) (w : World) (hg : GloT w) : Calls Tryz.prog 37 #[.agg #[.int .i64 x.1, .int .i64 x.2]] w fun e w' =>
    e = .returned (.agg #[.int .i64 (monI (oddF asihP) x).1, .int .i64 (monI (oddF asihP) x).2]) ∧ Below w.heap.size w w' := by
  have lgl := hg.lt
  obtain ⟨g2, g3⟩ := id hg
  have l1 : 1 < w.heap.size := World.block_lt_of_cell? _ _ g2
  have M := Lib.hid (fun b b2 w hg c2 c0 => mono_A x hx b b2 w hg c2 c0)
  generalize monI (oddF asihP) x = z at *
  go_enter Tryz.func37, Tryz.ntmps37
  go_wp2_with fail
  have z0 := pslot_of (w := ((w.alloc (.cells #[.int .i64 x.1, .int .i64 x.2] 26)).alloc (.cells #[.int .i64 0, .int .i64 0] 26))) (a := ⟨w.heap.size + 1, 0, none⟩) (v := .int .i64 0) (by simp [go_sem]) (by simp [go_sem])
  have z1 := pslot_of (w := ((w.alloc (.cells #[.int .i64 x.1, .int .i64 x.2] 26)).alloc (.cells #[.int .i64 0, .int .i64 0] 26))) (a := ⟨w.heap.size + 1, 1, none⟩) (v := .int .i64 0) (by simp [go_sem]) (by simp [go_sem])
  obtain ⟨hlt2, hlt3, hlt4, hlt5, hlt6, hlt7, hlt8, hlt9, hlt10, hlt11⟩ := below_add; go_region_held3 (fun w' => w'.cell? ⟨w.heap.size, 0, none⟩ = some (.int .i64 x.1) ∧ w'.cell? ⟨w.heap.size, 1, none⟩ = some (.int .i64 x.2) ∧ w'.cell? ⟨1, 0, none⟩ = some (.int .i64 (-1)) ∧ w'.cell? ⟨1, 1, none⟩ = some (.int .i64 1) ∧ (w'.cell? ⟨w.heap.size + 1, 0, none⟩ = some (peek w' ⟨w.heap.size + 1, 0, none⟩) ∧ w'.frozen? ⟨w.heap.size + 1, 0, none⟩ = false) ∧ (w'.cell? ⟨w.heap.size + 1, 1, none⟩ = some (peek w' ⟨w.heap.size + 1, 1, none⟩) ∧ w'.frozen? ⟨w.heap.size + 1, 1, none⟩ = false)) (first | (with_reducible exact ((And.imp (cell_kept (by assumption)) (And.imp (cell_kept (by assumption)) (And.imp (cell_kept (by assumption)) (And.imp (cell_kept (by assumption)) (And.imp (pslot_kept (by assumption)) (pslot_kept (by assumption))))))) (by assumption))) | (with_reducible exact ((And.imp (cell_alloc) (And.imp (cell_alloc) (And.imp (cell_alloc) (And.imp (cell_alloc) (And.imp (pslot_alloc) (pslot_alloc)))))) (by assumption))) | (with_reducible exact ((And.imp (fun h => cell_far (by first | (simp; done) | (simp; omega) | (dsimp only; omega)) (cell_far (by first | (simp; done) | (simp; omega) | (dsimp only; omega)) h)) (And.imp (fun h => cell_far (by first | (simp; done) | (simp; omega) | (dsimp only; omega)) (cell_far (by first | (simp; done) | (simp; omega) | (dsimp only; omega)) h)) (And.imp (fun h => cell_far (by first | (simp; done) | (simp; omega) | (dsimp only; omega)) (cell_far (by first | (simp; done) | (simp; omega) | (dsimp only; omega)) h)) (And.imp (fun h => cell_far (by first | (simp; done) | (simp; omega) | (dsimp only; omega)) (cell_far (by first | (simp; done) | (simp; omega) | (dsimp only; omega)) h)) (And.imp (fun h => pslot_set (pslot_set h)) (fun h => pslot_set (pslot_set h))))))) (by assumption))) | (refine ⟨?_, ?_, ?_, ?_, ?_, ?_⟩ <;> repeat (first | (with_reducible assumption) | (with_reducible refine cell_far (by first | (simp; done) | (simp; omega) | (dsimp only; omega)) ?_) | (with_reducible refine cell_drew ?_) | (with_reducible refine cell_drewN ?_) | (with_reducible refine cell_kept (by assumption) ?_) | (with_reducible exact pslot_of (by assumption) (by assumption)) | (with_reducible refine pslot_drew ?_) | (with_reducible refine pslot_kept (by assumption) ?_) | (with_reducible refine pslot_alloc ?_) | (simp [go_sem]; done) | (with_reducible refine cell_alloc ?_))) | (simp [go_sem, *]; done)) (first | (go_at_call 100; refine (odd_any _ _ _).mono ?_; rintro e w1 ⟨rfl, rfl⟩) | (go_at_call 99; refine (monotonic_any _ _ _).mono ?_; rintro e w1 ⟨rfl, rfl⟩) | (go_at_call 154; refine (M.out _ (w.heap.size + 1 + 1) _ (GloT.mk (by simp [go_sem, *]) (by simp [go_sem, *])) (by simp [go_sem, *]) ⟨(by simp [go_sem, *]), (by simp [go_sem, *])⟩).mono ?_; rintro e w1 ⟨rfl, hb⟩; have hs : _ ≤ w1.heap.size := hb.size; (try simp at hs); obtain ⟨hc, hf, hl, hn, hm⟩ := behind hb))
  all_goals (go_wp2; have o_j0 : Own (w1) (w.heap.size + 1) 0 (.int .i64 0) := ownJ; obtain ⟨j0, f_j0⟩ := o_j0; have o_j1 : Own (w1) (w.heap.size + 1) 1 (.int .i64 0) := ownJ; obtain ⟨j1, f_j1⟩ := o_j1; exact bodyPost_ret (v := .agg #[.int .i64 (z).1, .int .i64 (z).2]) (by simp [results, Tryz.results37, go_sem, j0, j1]) rfl ⟨rfl, belB⟩)
end Go.Proofs.YtmikjgbojknlnaaGreatDoor
