/- A contract of quotients of intervals in the model. Conditions: numbers are int64. -/
import Derived.Test.YtmikjgbojknlnaaIvV
import Derived.Test.YtmikjgbojknlnaaFixE
import Derived.LoopN
import Derived.Handy
import Derived.Outline
namespace Go.Proofs.Ytmikjgbojknlnaa
open Go.ChangeShapes Go.WideShapes Go.ChangeAt Go.RowKit
set_option linter.unusedVariables false
set_option maxRecDepth 100000
set_option linter.unusedSimpArgs false
set_option maxHeartbeats 1000000

set_option maxHeartbeats 40000000 in
theorem sDivI_any (x y : Iv) (w : World) : Calls Try.prog 136 #[.agg #[.int .i64 x.1, .int .i64 x.2], .agg #[.int .i64 y.1, .int .i64 y.2]] w fun e w' =>
    e = .returned (.agg #[.int .i64 (divI x y).1, .int .i64 (divI x y).2]) ∧ Below w.heap.size w w' := by
  by_cases h1 : Bnd x
  · have B1 := Lib.hid (bnd_yes h1)
    by_cases h2 : Bnd y
    · have B2 := Lib.hid (bnd_yes h2)
      by_cases z : y.1 ≤ 0 ∧ 0 ≤ y.2
      · have HZ := Lib.hid (show decide (y.1 ≤ 0 ∧ 0 ≤ y.2) = true from decide_eq_true z)
        have E := Lib.hid (show divI x y = whl from if_neg (fun k => k.2.2 z))
        clear z h1 h2
        go_enter Try.func136, Try.ntmps136
        go_wp2_with fail
        refine (l04Ok_any x _).mono ?_
        rintro e w1 ⟨rfl, hb1⟩
        have hs1 : _ ≤ w1.heap.size := hb1.size
        try simp at hs1
        rw [B1.out]
        have o_qa10 : Own (w1) (w.heap.size) 0 (.int .i64 x.1) := ownJ; obtain ⟨qa10, f_qa10⟩ := o_qa10; have o_qa11 : Own (w1) (w.heap.size) 1 (.int .i64 x.2) := ownJ; obtain ⟨qa11, f_qa11⟩ := o_qa11
        have o_qb10 : Own (w1) (w.heap.size + 1) 0 (.int .i64 y.1) := ownJ; obtain ⟨qb10, f_qb10⟩ := o_qb10; have o_qb11 : Own (w1) (w.heap.size + 1) 1 (.int .i64 y.2) := ownJ; obtain ⟨qb11, f_qb11⟩ := o_qb11
        have o_qr10 : Own (w1) (w.heap.size + 1 + 1) 0 (.int .i64 0) := ownJ; obtain ⟨qr10, f_qr10⟩ := o_qr10; have o_qr11 : Own (w1) (w.heap.size + 1 + 1) 1 (.int .i64 0) := ownJ; obtain ⟨qr11, f_qr11⟩ := o_qr11
        go_wp2_with fail
        refine (l04Ok_any y _).mono ?_
        rintro e w2 ⟨rfl, hb2⟩
        have hs2 : _ ≤ w2.heap.size := hb2.size
        try simp at hs2
        rw [B2.out]
        have o_qa20 : Own (w2) (w.heap.size) 0 (.int .i64 x.1) := ownJ; obtain ⟨qa20, f_qa20⟩ := o_qa20; have o_qa21 : Own (w2) (w.heap.size) 1 (.int .i64 x.2) := ownJ; obtain ⟨qa21, f_qa21⟩ := o_qa21
        have o_qb20 : Own (w2) (w.heap.size + 1) 0 (.int .i64 y.1) := ownJ; obtain ⟨qb20, f_qb20⟩ := o_qb20; have o_qb21 : Own (w2) (w.heap.size + 1) 1 (.int .i64 y.2) := ownJ; obtain ⟨qb21, f_qb21⟩ := o_qb21
        have o_qr20 : Own (w2) (w.heap.size + 1 + 1) 0 (.int .i64 0) := ownJ; obtain ⟨qr20, f_qr20⟩ := o_qr20; have o_qr21 : Own (w2) (w.heap.size + 1 + 1) 1 (.int .i64 0) := ownJ; obtain ⟨qr21, f_qr21⟩ := o_qr21
        go_wp2_with fail
        refine (l04Has_any y 0 _).mono ?_
        rintro e w3 ⟨rfl, hb3⟩
        have hs3 : _ ≤ w3.heap.size := hb3.size
        try simp at hs3
        rw [HZ.out]
        have o_qa30 : Own (w3) (w.heap.size) 0 (.int .i64 x.1) := ownJ; obtain ⟨qa30, f_qa30⟩ := o_qa30; have o_qa31 : Own (w3) (w.heap.size) 1 (.int .i64 x.2) := ownJ; obtain ⟨qa31, f_qa31⟩ := o_qa31
        have o_qb30 : Own (w3) (w.heap.size + 1) 0 (.int .i64 y.1) := ownJ; obtain ⟨qb30, f_qb30⟩ := o_qb30; have o_qb31 : Own (w3) (w.heap.size + 1) 1 (.int .i64 y.2) := ownJ; obtain ⟨qb31, f_qb31⟩ := o_qb31
        have o_qr30 : Own (w3) (w.heap.size + 1 + 1) 0 (.int .i64 0) := ownJ; obtain ⟨qr30, f_qr30⟩ := o_qr30; have o_qr31 : Own (w3) (w.heap.size + 1 + 1) 1 (.int .i64 0) := ownJ; obtain ⟨qr31, f_qr31⟩ := o_qr31
        go_wp2_with fail
        refine (l04Whole_any _).mono ?_
        rintro e w4 ⟨rfl, hb4⟩
        have hs4 : _ ≤ w4.heap.size := hb4.size
        try simp at hs4
        have o_qr40 : Own (w4) (w.heap.size + 1 + 1) 0 (.int .i64 0) := ownJ; obtain ⟨qr40, f_qr40⟩ := o_qr40; have o_qr41 : Own (w4) (w.heap.size + 1 + 1) 1 (.int .i64 0) := ownJ; obtain ⟨qr41, f_qr41⟩ := o_qr41
        go_wp2
        exact bodyPost_ret (v := .agg #[.int .i64 (-1152921504606846976), .int .i64 1152921504606846976]) (by simp [results, Try.results136, go_sem, qr40, qr41]) rfl ⟨(by first | (rw [E.out]; done) | (rw [E.out]; rfl) | (simp [E.out]; done)), belB⟩
      · have HZ := Lib.hid (show decide (y.1 ≤ 0 ∧ 0 ≤ y.2) = false from decide_eq_false z)
        have DEF := div_def h1 h2 z
        clear z
        obtain ⟨xa, xb, xc⟩ := h1
        obtain ⟨ya, yb, yc⟩ := h2
        have i1 : In64 x.1 := by unfold In64; omega
        have i2 : In64 x.2 := by unfold In64; omega
        have j1 : In64 y.1 := by unfold In64; omega
        have j2 : In64 y.2 := by unfold In64; omega
        clear xa xb xc ya yb yc
        have D1 := Lib.hid (fun w => l03DivDown_any x.1 y.1 i1 j1 w)
        have U1 := Lib.hid (fun w => l03DivUp_any x.1 y.1 i1 j1 w)
        have e1 : rdD x.1 y.1 = kn (resB (dvc x.1 y.1) (dvD x.1 y.1) && resB (dvc x.1 y.1) (dvU x.1 y.1)) (resI (dvc x.1 y.1) (dvD x.1 y.1), resI (dvc x.1 y.1) (dvU x.1 y.1)) := rfl
        have f1 : InF (resI (dvc x.1 y.1) (dvD x.1 y.1)) ∧ InF (resI (dvc x.1 y.1) (dvU x.1 y.1)) := ⟨res_in _ _, res_in _ _⟩
        have o1 := rdD_yes (a := x.1) (b := y.1)
        have D2 := Lib.hid (fun w => l03DivDown_any x.1 y.2 i1 j2 w)
        have U2 := Lib.hid (fun w => l03DivUp_any x.1 y.2 i1 j2 w)
        have e2 : rdD x.1 y.2 = kn (resB (dvc x.1 y.2) (dvD x.1 y.2) && resB (dvc x.1 y.2) (dvU x.1 y.2)) (resI (dvc x.1 y.2) (dvD x.1 y.2), resI (dvc x.1 y.2) (dvU x.1 y.2)) := rfl
        have f2 : InF (resI (dvc x.1 y.2) (dvD x.1 y.2)) ∧ InF (resI (dvc x.1 y.2) (dvU x.1 y.2)) := ⟨res_in _ _, res_in _ _⟩
        have o2 := rdD_yes (a := x.1) (b := y.2)
        have D3 := Lib.hid (fun w => l03DivDown_any x.2 y.1 i2 j1 w)
        have U3 := Lib.hid (fun w => l03DivUp_any x.2 y.1 i2 j1 w)
        have e3 : rdD x.2 y.1 = kn (resB (dvc x.2 y.1) (dvD x.2 y.1) && resB (dvc x.2 y.1) (dvU x.2 y.1)) (resI (dvc x.2 y.1) (dvD x.2 y.1), resI (dvc x.2 y.1) (dvU x.2 y.1)) := rfl
        have f3 : InF (resI (dvc x.2 y.1) (dvD x.2 y.1)) ∧ InF (resI (dvc x.2 y.1) (dvU x.2 y.1)) := ⟨res_in _ _, res_in _ _⟩
        have o3 := rdD_yes (a := x.2) (b := y.1)
        have D4 := Lib.hid (fun w => l03DivDown_any x.2 y.2 i2 j2 w)
        have U4 := Lib.hid (fun w => l03DivUp_any x.2 y.2 i2 j2 w)
        have e4 : rdD x.2 y.2 = kn (resB (dvc x.2 y.2) (dvD x.2 y.2) && resB (dvc x.2 y.2) (dvU x.2 y.2)) (resI (dvc x.2 y.2) (dvD x.2 y.2), resI (dvc x.2 y.2) (dvU x.2 y.2)) := rfl
        have f4 : InF (resI (dvc x.2 y.2) (dvD x.2 y.2)) ∧ InF (resI (dvc x.2 y.2) (dvU x.2 y.2)) := ⟨res_in _ _, res_in _ _⟩
        have o4 := rdD_yes (a := x.2) (b := y.2)
        clear i1 i2 j1 j2
        obtain ⟨R1, hR1⟩ : ∃ R, R = rdD x.1 y.1 := ⟨_, rfl⟩
        rw [← hR1] at e1 DEF
        obtain ⟨R2, hR2⟩ : ∃ R, R = rdD x.1 y.2 := ⟨_, rfl⟩
        rw [← hR2] at e2 DEF
        obtain ⟨R3, hR3⟩ : ∃ R, R = rdD x.2 y.1 := ⟨_, rfl⟩
        rw [← hR3] at e3 DEF
        obtain ⟨R4, hR4⟩ : ∃ R, R = rdD x.2 y.2 := ⟨_, rfl⟩
        rw [← hR4] at e4 DEF
        generalize resB (dvc x.1 y.1) (dvD x.1 y.1) = c1 at *
        generalize resB (dvc x.1 y.1) (dvU x.1 y.1) = d1 at *
        generalize resI (dvc x.1 y.1) (dvD x.1 y.1) = l1 at *
        generalize resI (dvc x.1 y.1) (dvU x.1 y.1) = h1 at *
        generalize resB (dvc x.1 y.2) (dvD x.1 y.2) = c2 at *
        generalize resB (dvc x.1 y.2) (dvU x.1 y.2) = d2 at *
        generalize resI (dvc x.1 y.2) (dvD x.1 y.2) = l2 at *
        generalize resI (dvc x.1 y.2) (dvU x.1 y.2) = h2 at *
        generalize resB (dvc x.2 y.1) (dvD x.2 y.1) = c3 at *
        generalize resB (dvc x.2 y.1) (dvU x.2 y.1) = d3 at *
        generalize resI (dvc x.2 y.1) (dvD x.2 y.1) = l3 at *
        generalize resI (dvc x.2 y.1) (dvU x.2 y.1) = h3 at *
        generalize resB (dvc x.2 y.2) (dvD x.2 y.2) = c4 at *
        generalize resB (dvc x.2 y.2) (dvU x.2 y.2) = d4 at *
        generalize resI (dvc x.2 y.2) (dvD x.2 y.2) = l4 at *
        generalize resI (dvc x.2 y.2) (dvU x.2 y.2) = h4 at *
        have E1 := Lib.hid e1
        have F1 := Lib.hid f1
        have O1 := Lib.hid o1
        clear e1 f1 o1
        have E2 := Lib.hid e2
        have F2 := Lib.hid f2
        have O2 := Lib.hid o2
        clear e2 f2 o2
        have E3 := Lib.hid e3
        have F3 := Lib.hid f3
        have O3 := Lib.hid o3
        clear e3 f3 o3
        have E4 := Lib.hid e4
        have F4 := Lib.hid f4
        have O4 := Lib.hid o4
        clear e4 f4 o4
        have DE := Lib.hid DEF
        clear DEF
        go_enter Try.func136, Try.ntmps136
        go_wp2_with fail
        refine (l04Ok_any x _).mono ?_
        rintro e w1 ⟨rfl, hb1⟩
        have hs1 : _ ≤ w1.heap.size := hb1.size
        try simp at hs1
        rw [B1.out]
        have o_qa10 : Own (w1) (w.heap.size) 0 (.int .i64 x.1) := ownJ; obtain ⟨qa10, f_qa10⟩ := o_qa10; have o_qa11 : Own (w1) (w.heap.size) 1 (.int .i64 x.2) := ownJ; obtain ⟨qa11, f_qa11⟩ := o_qa11
        have o_qb10 : Own (w1) (w.heap.size + 1) 0 (.int .i64 y.1) := ownJ; obtain ⟨qb10, f_qb10⟩ := o_qb10; have o_qb11 : Own (w1) (w.heap.size + 1) 1 (.int .i64 y.2) := ownJ; obtain ⟨qb11, f_qb11⟩ := o_qb11
        have o_qr10 : Own (w1) (w.heap.size + 1 + 1) 0 (.int .i64 0) := ownJ; obtain ⟨qr10, f_qr10⟩ := o_qr10; have o_qr11 : Own (w1) (w.heap.size + 1 + 1) 1 (.int .i64 0) := ownJ; obtain ⟨qr11, f_qr11⟩ := o_qr11
        go_wp2_with fail
        refine (l04Ok_any y _).mono ?_
        rintro e w2 ⟨rfl, hb2⟩
        have hs2 : _ ≤ w2.heap.size := hb2.size
        try simp at hs2
        rw [B2.out]
        have o_qa20 : Own (w2) (w.heap.size) 0 (.int .i64 x.1) := ownJ; obtain ⟨qa20, f_qa20⟩ := o_qa20; have o_qa21 : Own (w2) (w.heap.size) 1 (.int .i64 x.2) := ownJ; obtain ⟨qa21, f_qa21⟩ := o_qa21
        have o_qb20 : Own (w2) (w.heap.size + 1) 0 (.int .i64 y.1) := ownJ; obtain ⟨qb20, f_qb20⟩ := o_qb20; have o_qb21 : Own (w2) (w.heap.size + 1) 1 (.int .i64 y.2) := ownJ; obtain ⟨qb21, f_qb21⟩ := o_qb21
        have o_qr20 : Own (w2) (w.heap.size + 1 + 1) 0 (.int .i64 0) := ownJ; obtain ⟨qr20, f_qr20⟩ := o_qr20; have o_qr21 : Own (w2) (w.heap.size + 1 + 1) 1 (.int .i64 0) := ownJ; obtain ⟨qr21, f_qr21⟩ := o_qr21
        go_wp2_with fail
        refine (l04Has_any y 0 _).mono ?_
        rintro e w3 ⟨rfl, hb3⟩
        have hs3 : _ ≤ w3.heap.size := hb3.size
        try simp at hs3
        rw [HZ.out]
        have o_qa30 : Own (w3) (w.heap.size) 0 (.int .i64 x.1) := ownJ; obtain ⟨qa30, f_qa30⟩ := o_qa30; have o_qa31 : Own (w3) (w.heap.size) 1 (.int .i64 x.2) := ownJ; obtain ⟨qa31, f_qa31⟩ := o_qa31
        have o_qb30 : Own (w3) (w.heap.size + 1) 0 (.int .i64 y.1) := ownJ; obtain ⟨qb30, f_qb30⟩ := o_qb30; have o_qb31 : Own (w3) (w.heap.size + 1) 1 (.int .i64 y.2) := ownJ; obtain ⟨qb31, f_qb31⟩ := o_qb31
        have o_qr30 : Own (w3) (w.heap.size + 1 + 1) 0 (.int .i64 0) := ownJ; obtain ⟨qr30, f_qr30⟩ := o_qr30; have o_qr31 : Own (w3) (w.heap.size + 1 + 1) 1 (.int .i64 0) := ownJ; obtain ⟨qr31, f_qr31⟩ := o_qr31
        have la : w.heap.size < w3.heap.size := World.block_lt_of_cell? _ _ qa30
        have na : ¬ w.heap.size = w3.heap.size := Nat.ne_of_lt la
        have ma : ¬ w3.heap.size = w.heap.size := Nat.ne_of_gt la
        have lb : w.heap.size + 1 < w3.heap.size := World.block_lt_of_cell? _ _ qb30
        have nb : ¬ w.heap.size + 1 = w3.heap.size := Nat.ne_of_lt lb
        have mb : ¬ w3.heap.size = w.heap.size + 1 := Nat.ne_of_gt lb
        have lr : w.heap.size + 1 + 1 < w3.heap.size := World.block_lt_of_cell? _ _ qr30
        have nr : ¬ w.heap.size + 1 + 1 = w3.heap.size := Nat.ne_of_lt lr
        have mr : ¬ w3.heap.size = w.heap.size + 1 + 1 := Nat.ne_of_gt lr
        have o_zr0 : Own w3 (w.heap.size + 1 + 1) 0 (.int .i64 0) := ⟨qr30, f_qr30⟩
        have o_zr1 : Own w3 (w.heap.size + 1 + 1) 1 (.int .i64 0) := ⟨qr31, f_qr31⟩
        have BX : Below w.heap.size w w3 := belB
        have bw := BX.size
        have BW := Lib.hid BX
        clear BX hb1 hs1 hb2 hs2 hb3 hs3
        go_wp2
        refine wp_loop_rounds 3 ?_
        rw [rounds_succ]
        go_wp2
        refine wp_loop_rounds 3 ?_
        rw [rounds_succ]
        go_wp2_with fail
        obtain ⟨hlt2, hlt3, hlt4, hlt5, hlt6, hlt7, hlt8, hlt9, hlt10, hlt11⟩ := below_add; go_region_held3 (fun w' => w'.cell? ⟨w3.heap.size, 0, none⟩ = some (.int .i64 x.1) ∧ w'.cell? ⟨w3.heap.size, 1, none⟩ = some (.int .i64 x.2) ∧ w'.cell? ⟨w3.heap.size + 1, 0, none⟩ = some (.int .i64 y.1) ∧ w'.cell? ⟨w3.heap.size + 1, 1, none⟩ = some (.int .i64 y.2)) (first | (with_reducible exact ((And.imp (cell_kept (by assumption)) (And.imp (cell_kept (by assumption)) (And.imp (cell_kept (by assumption)) (cell_kept (by assumption))))) (by assumption))) | (with_reducible exact ((And.imp (cell_alloc) (And.imp (cell_alloc) (And.imp (cell_alloc) (cell_alloc)))) (by assumption))) | (with_reducible exact ((And.imp (fun h => cell_far (by first | (simp; done) | (simp; omega)) (cell_far (by first | (simp; done) | (simp; omega)) h)) (And.imp (fun h => cell_far (by first | (simp; done) | (simp; omega)) (cell_far (by first | (simp; done) | (simp; omega)) h)) (And.imp (fun h => cell_far (by first | (simp; done) | (simp; omega)) (cell_far (by first | (simp; done) | (simp; omega)) h)) (fun h => cell_far (by first | (simp; done) | (simp; omega)) (cell_far (by first | (simp; done) | (simp; omega)) h))))) (by assumption))) | (refine ⟨?_, ?_, ?_, ?_⟩ <;> repeat (first | (with_reducible assumption) | (with_reducible refine cell_far (by first | (simp; done) | (simp; omega)) ?_) | (with_reducible refine cell_drew ?_) | (with_reducible refine cell_drewN ?_) | (with_reducible refine cell_kept (by assumption) ?_) | (simp [go_sem]; done) | (with_reducible refine cell_alloc ?_))) | (simp [go_sem, *]; done)) ((go_at_call 179; refine (D1.out _).mono ?_; rintro e w1 ⟨rfl, hb⟩; have hs : _ ≤ w1.heap.size := hb.size; (try simp at hs); obtain ⟨hc, hf, hl, hn, hm⟩ := behind hb))
        have o_ms00 : Own (w1) (w3.heap.size) 0 (.int .i64 x.1) := ownJ; have ms00 := o_ms00.1; have f_ms00 := o_ms00.2; have o_ms01 : Own (w1) (w3.heap.size) 1 (.int .i64 x.2) := ownJ; have ms01 := o_ms01.1; have f_ms01 := o_ms01.2
        have o_mt00 : Own (w1) (w3.heap.size + 1) 0 (.int .i64 y.1) := ownJ; have mt00 := o_mt00.1; have f_mt00 := o_mt00.2; have o_mt01 : Own (w1) (w3.heap.size + 1) 1 (.int .i64 y.2) := ownJ; have mt01 := o_mt01.1; have f_mt01 := o_mt01.2
        have o_mr00 : Own (w1) (w.heap.size + 1 + 1) 0 (.int .i64 0) := ownJ; have mr00 := o_mr00.1; have f_mr00 := o_mr00.2; have o_mr01 : Own (w1) (w.heap.size + 1 + 1) 1 (.int .i64 0) := ownJ; have mr01 := o_mr01.1; have f_mr01 := o_mr01.2
        have BX : Below w.heap.size w w1 := (by repeat (first | (with_reducible exact BW.out) | (with_reducible refine Below.drew ?_) | (with_reducible refine Below.alloc ?_ (by first | omega | (simp; omega)) _) | (with_reducible refine Below.trans ?_ (Below.mono hb (by first | omega | (simp; omega))))))
        clear BW bw hb hs hc hf hl hn hm hlt2 hlt3 hlt4 hlt5 hlt6 hlt7 hlt8 hlt9 hlt10 hlt11
        have bw := BX.size
        have BW := Lib.hid BX
        clear BX
        go_wp2_with fail
        obtain ⟨hlt2, hlt3, hlt4, hlt5, hlt6, hlt7, hlt8, hlt9, hlt10, hlt11⟩ := below_add; go_region_held3 (fun w' => w'.cell? ⟨w3.heap.size, 0, none⟩ = some (.int .i64 x.1) ∧ w'.cell? ⟨w3.heap.size, 1, none⟩ = some (.int .i64 x.2) ∧ w'.cell? ⟨w3.heap.size + 1, 0, none⟩ = some (.int .i64 y.1) ∧ w'.cell? ⟨w3.heap.size + 1, 1, none⟩ = some (.int .i64 y.2)) (first | (with_reducible exact ((And.imp (cell_kept (by assumption)) (And.imp (cell_kept (by assumption)) (And.imp (cell_kept (by assumption)) (cell_kept (by assumption))))) (by assumption))) | (with_reducible exact ((And.imp (cell_alloc) (And.imp (cell_alloc) (And.imp (cell_alloc) (cell_alloc)))) (by assumption))) | (with_reducible exact ((And.imp (fun h => cell_far (by first | (simp; done) | (simp; omega)) (cell_far (by first | (simp; done) | (simp; omega)) h)) (And.imp (fun h => cell_far (by first | (simp; done) | (simp; omega)) (cell_far (by first | (simp; done) | (simp; omega)) h)) (And.imp (fun h => cell_far (by first | (simp; done) | (simp; omega)) (cell_far (by first | (simp; done) | (simp; omega)) h)) (fun h => cell_far (by first | (simp; done) | (simp; omega)) (cell_far (by first | (simp; done) | (simp; omega)) h))))) (by assumption))) | (refine ⟨?_, ?_, ?_, ?_⟩ <;> repeat (first | (with_reducible assumption) | (with_reducible refine cell_far (by first | (simp; done) | (simp; omega)) ?_) | (with_reducible refine cell_drew ?_) | (with_reducible refine cell_drewN ?_) | (with_reducible refine cell_kept (by assumption) ?_) | (simp [go_sem]; done) | (with_reducible refine cell_alloc ?_))) | (simp [go_sem, *]; done)) ((go_at_call 180; refine (U1.out _).mono ?_; rintro e w1 ⟨rfl, hb⟩; have hs : _ ≤ w1.heap.size := hb.size; (try simp at hs); obtain ⟨hc, hf, hl, hn, hm⟩ := behind hb))
        have o_ks00 : Own (w1) (w3.heap.size) 0 (.int .i64 x.1) := ownJ; have ks00 := o_ks00.1; have f_ks00 := o_ks00.2; have o_ks01 : Own (w1) (w3.heap.size) 1 (.int .i64 x.2) := ownJ; have ks01 := o_ks01.1; have f_ks01 := o_ks01.2
        have o_kt00 : Own (w1) (w3.heap.size + 1) 0 (.int .i64 y.1) := ownJ; have kt00 := o_kt00.1; have f_kt00 := o_kt00.2; have o_kt01 : Own (w1) (w3.heap.size + 1) 1 (.int .i64 y.2) := ownJ; have kt01 := o_kt01.1; have f_kt01 := o_kt01.2
        have o_kr00 : Own (w1) (w.heap.size + 1 + 1) 0 (.int .i64 0) := ownJ; have kr00 := o_kr00.1; have f_kr00 := o_kr00.2; have o_kr01 : Own (w1) (w.heap.size + 1 + 1) 1 (.int .i64 0) := ownJ; have kr01 := o_kr01.1; have f_kr01 := o_kr01.2
        have BX : Below w.heap.size w w1 := (by repeat (first | (with_reducible exact BW.out) | (with_reducible refine Below.drew ?_) | (with_reducible refine Below.alloc ?_ (by first | omega | (simp; omega)) _) | (with_reducible refine Below.trans ?_ (Below.mono hb (by first | omega | (simp; omega))))))
        clear BW bw hb hs hc hf hl hn hm hlt2 hlt3 hlt4 hlt5 hlt6 hlt7 hlt8 hlt9 hlt10 hlt11
        have bw := BX.size
        have BW := Lib.hid BX
        clear BX
        clear o_ms00 ms00 f_ms00 o_ms01 ms01 f_ms01 o_mt00 mt00 f_mt00 o_mt01 mt01 f_mt01 o_mr00 mr00 f_mr00 o_mr01 mr01 f_mr01
        cases c1
        · have E := Lib.hid (DE.out.trans (hul4_lost (.inl (kn_lost E1.out rfl))))
          go_wp2_with fail
          refine (l04Whole_any _).mono ?_
          rintro e wf ⟨rfl, hb⟩
          obtain ⟨z0, zf0⟩ := own_kept hb o_kr00
          obtain ⟨z1, zf1⟩ := own_kept hb o_kr01
          have BE := BW.out.trans (hb.mono bw)
          go_wp2_with ((first | (with_reducible refine bodyPost_ret (v := .agg #[.int .i64 (-1152921504606846976), .int .i64 1152921504606846976]) ?_ ?_ ?_) | (simp only [Exit.inBlock, Exit.then]; with_reducible refine bodyPost_ret (v := .agg #[.int .i64 (-1152921504606846976), .int .i64 1152921504606846976]) ?_ ?_ ?_)); (focus (simp [results, Try.results136, go_sem, z0, z1]; done)); (focus rfl); (focus exact ⟨(by first | (rw [E.out]; done) | (rw [E.out]; rfl) | (simp [E.out]; done)), ((BE.setCell (by simp; omega) _).setCell (by simp; omega) _)⟩))
        · cases d1
          · have E := Lib.hid (DE.out.trans (hul4_lost (.inl (kn_lost E1.out rfl))))
            go_wp2_with fail
            refine (l04Whole_any _).mono ?_
            rintro e wf ⟨rfl, hb⟩
            obtain ⟨z0, zf0⟩ := own_kept hb o_kr00
            obtain ⟨z1, zf1⟩ := own_kept hb o_kr01
            have BE := BW.out.trans (hb.mono bw)
            go_wp2_with ((first | (with_reducible refine bodyPost_ret (v := .agg #[.int .i64 (-1152921504606846976), .int .i64 1152921504606846976]) ?_ ?_ ?_) | (simp only [Exit.inBlock, Exit.then]; with_reducible refine bodyPost_ret (v := .agg #[.int .i64 (-1152921504606846976), .int .i64 1152921504606846976]) ?_ ?_ ?_)); (focus (simp [results, Try.results136, go_sem, z0, z1]; done)); (focus rfl); (focus exact ⟨(by first | (rw [E.out]; done) | (rw [E.out]; rfl) | (simp [E.out]; done)), ((BE.setCell (by simp; omega) _).setCell (by simp; omega) _)⟩))
          · go_wp2_with fail
            refine (l00Min_any _ _ _).mono ?_
            rintro e w0 ⟨rfl, rfl⟩
            go_wp2_with fail
            refine (l00Max_any _ _ _).mono ?_
            rintro e w0 ⟨rfl, rfl⟩
            go_wp2
            rw [rounds_succ]
            go_wp2_with fail
            obtain ⟨hlt2, hlt3, hlt4, hlt5, hlt6, hlt7, hlt8, hlt9, hlt10, hlt11⟩ := below_add; go_region_held3 (fun w' => w'.cell? ⟨w3.heap.size, 0, none⟩ = some (.int .i64 x.1) ∧ w'.cell? ⟨w3.heap.size, 1, none⟩ = some (.int .i64 x.2) ∧ w'.cell? ⟨w3.heap.size + 1, 0, none⟩ = some (.int .i64 y.1) ∧ w'.cell? ⟨w3.heap.size + 1, 1, none⟩ = some (.int .i64 y.2)) (first | (with_reducible exact ((And.imp (cell_kept (by assumption)) (And.imp (cell_kept (by assumption)) (And.imp (cell_kept (by assumption)) (cell_kept (by assumption))))) (by assumption))) | (with_reducible exact ((And.imp (cell_alloc) (And.imp (cell_alloc) (And.imp (cell_alloc) (cell_alloc)))) (by assumption))) | (with_reducible exact ((And.imp (fun h => cell_far (by first | (simp; done) | (simp; omega)) (cell_far (by first | (simp; done) | (simp; omega)) h)) (And.imp (fun h => cell_far (by first | (simp; done) | (simp; omega)) (cell_far (by first | (simp; done) | (simp; omega)) h)) (And.imp (fun h => cell_far (by first | (simp; done) | (simp; omega)) (cell_far (by first | (simp; done) | (simp; omega)) h)) (fun h => cell_far (by first | (simp; done) | (simp; omega)) (cell_far (by first | (simp; done) | (simp; omega)) h))))) (by assumption))) | (refine ⟨?_, ?_, ?_, ?_⟩ <;> repeat (first | (with_reducible assumption) | (with_reducible refine cell_far (by first | (simp; done) | (simp; omega)) ?_) | (with_reducible refine cell_drew ?_) | (with_reducible refine cell_drewN ?_) | (with_reducible refine cell_kept (by assumption) ?_) | (simp [go_sem]; done) | (with_reducible refine cell_alloc ?_))) | (simp [go_sem, *]; done)) ((go_at_call 179; refine (D2.out _).mono ?_; rintro e w1 ⟨rfl, hb⟩; have hs : _ ≤ w1.heap.size := hb.size; (try simp at hs); obtain ⟨hc, hf, hl, hn, hm⟩ := behind hb))
            have o_ms00 : Own (w1) (w3.heap.size) 0 (.int .i64 x.1) := ownJ; have ms00 := o_ms00.1; have f_ms00 := o_ms00.2; have o_ms01 : Own (w1) (w3.heap.size) 1 (.int .i64 x.2) := ownJ; have ms01 := o_ms01.1; have f_ms01 := o_ms01.2
            have o_mt00 : Own (w1) (w3.heap.size + 1) 0 (.int .i64 y.1) := ownJ; have mt00 := o_mt00.1; have f_mt00 := o_mt00.2; have o_mt01 : Own (w1) (w3.heap.size + 1) 1 (.int .i64 y.2) := ownJ; have mt01 := o_mt01.1; have f_mt01 := o_mt01.2
            have o_mr00 : Own (w1) (w.heap.size + 1 + 1) 0 (.int .i64 0) := ownJ; have mr00 := o_mr00.1; have f_mr00 := o_mr00.2; have o_mr01 : Own (w1) (w.heap.size + 1 + 1) 1 (.int .i64 0) := ownJ; have mr01 := o_mr01.1; have f_mr01 := o_mr01.2
            have BX : Below w.heap.size w w1 := (by repeat (first | (with_reducible exact BW.out) | (with_reducible refine Below.drew ?_) | (with_reducible refine Below.alloc ?_ (by first | omega | (simp; omega)) _) | (with_reducible refine Below.trans ?_ (Below.mono hb (by first | omega | (simp; omega))))))
            clear BW bw hb hs hc hf hl hn hm hlt2 hlt3 hlt4 hlt5 hlt6 hlt7 hlt8 hlt9 hlt10 hlt11
            have bw := BX.size
            have BW := Lib.hid BX
            clear BX
            clear o_ks00 ks00 f_ks00 o_ks01 ks01 f_ks01 o_kt00 kt00 f_kt00 o_kt01 kt01 f_kt01 o_kr00 kr00 f_kr00 o_kr01 kr01 f_kr01
            go_wp2_with fail
            obtain ⟨hlt2, hlt3, hlt4, hlt5, hlt6, hlt7, hlt8, hlt9, hlt10, hlt11⟩ := below_add; go_region_held3 (fun w' => w'.cell? ⟨w3.heap.size, 0, none⟩ = some (.int .i64 x.1) ∧ w'.cell? ⟨w3.heap.size, 1, none⟩ = some (.int .i64 x.2) ∧ w'.cell? ⟨w3.heap.size + 1, 0, none⟩ = some (.int .i64 y.1) ∧ w'.cell? ⟨w3.heap.size + 1, 1, none⟩ = some (.int .i64 y.2)) (first | (with_reducible exact ((And.imp (cell_kept (by assumption)) (And.imp (cell_kept (by assumption)) (And.imp (cell_kept (by assumption)) (cell_kept (by assumption))))) (by assumption))) | (with_reducible exact ((And.imp (cell_alloc) (And.imp (cell_alloc) (And.imp (cell_alloc) (cell_alloc)))) (by assumption))) | (with_reducible exact ((And.imp (fun h => cell_far (by first | (simp; done) | (simp; omega)) (cell_far (by first | (simp; done) | (simp; omega)) h)) (And.imp (fun h => cell_far (by first | (simp; done) | (simp; omega)) (cell_far (by first | (simp; done) | (simp; omega)) h)) (And.imp (fun h => cell_far (by first | (simp; done) | (simp; omega)) (cell_far (by first | (simp; done) | (simp; omega)) h)) (fun h => cell_far (by first | (simp; done) | (simp; omega)) (cell_far (by first | (simp; done) | (simp; omega)) h))))) (by assumption))) | (refine ⟨?_, ?_, ?_, ?_⟩ <;> repeat (first | (with_reducible assumption) | (with_reducible refine cell_far (by first | (simp; done) | (simp; omega)) ?_) | (with_reducible refine cell_drew ?_) | (with_reducible refine cell_drewN ?_) | (with_reducible refine cell_kept (by assumption) ?_) | (simp [go_sem]; done) | (with_reducible refine cell_alloc ?_))) | (simp [go_sem, *]; done)) ((go_at_call 180; refine (U2.out _).mono ?_; rintro e w1 ⟨rfl, hb⟩; have hs : _ ≤ w1.heap.size := hb.size; (try simp at hs); obtain ⟨hc, hf, hl, hn, hm⟩ := behind hb))
            have o_ks00 : Own (w1) (w3.heap.size) 0 (.int .i64 x.1) := ownJ; have ks00 := o_ks00.1; have f_ks00 := o_ks00.2; have o_ks01 : Own (w1) (w3.heap.size) 1 (.int .i64 x.2) := ownJ; have ks01 := o_ks01.1; have f_ks01 := o_ks01.2
            have o_kt00 : Own (w1) (w3.heap.size + 1) 0 (.int .i64 y.1) := ownJ; have kt00 := o_kt00.1; have f_kt00 := o_kt00.2; have o_kt01 : Own (w1) (w3.heap.size + 1) 1 (.int .i64 y.2) := ownJ; have kt01 := o_kt01.1; have f_kt01 := o_kt01.2
            have o_kr00 : Own (w1) (w.heap.size + 1 + 1) 0 (.int .i64 0) := ownJ; have kr00 := o_kr00.1; have f_kr00 := o_kr00.2; have o_kr01 : Own (w1) (w.heap.size + 1 + 1) 1 (.int .i64 0) := ownJ; have kr01 := o_kr01.1; have f_kr01 := o_kr01.2
            have BX : Below w.heap.size w w1 := (by repeat (first | (with_reducible exact BW.out) | (with_reducible refine Below.drew ?_) | (with_reducible refine Below.alloc ?_ (by first | omega | (simp; omega)) _) | (with_reducible refine Below.trans ?_ (Below.mono hb (by first | omega | (simp; omega))))))
            clear BW bw hb hs hc hf hl hn hm hlt2 hlt3 hlt4 hlt5 hlt6 hlt7 hlt8 hlt9 hlt10 hlt11
            have bw := BX.size
            have BW := Lib.hid BX
            clear BX
            clear o_ms00 ms00 f_ms00 o_ms01 ms01 f_ms01 o_mt00 mt00 f_mt00 o_mt01 mt01 f_mt01 o_mr00 mr00 f_mr00 o_mr01 mr01 f_mr01
            cases c2
            · have E := Lib.hid (DE.out.trans (hul4_lost (.inr (.inl (kn_lost E2.out rfl)))))
              go_wp2_with fail
              refine (l04Whole_any _).mono ?_
              rintro e wf ⟨rfl, hb⟩
              obtain ⟨z0, zf0⟩ := own_kept hb o_kr00
              obtain ⟨z1, zf1⟩ := own_kept hb o_kr01
              have BE := BW.out.trans (hb.mono bw)
              go_wp2_with ((first | (with_reducible refine bodyPost_ret (v := .agg #[.int .i64 (-1152921504606846976), .int .i64 1152921504606846976]) ?_ ?_ ?_) | (simp only [Exit.inBlock, Exit.then]; with_reducible refine bodyPost_ret (v := .agg #[.int .i64 (-1152921504606846976), .int .i64 1152921504606846976]) ?_ ?_ ?_)); (focus (simp [results, Try.results136, go_sem, z0, z1]; done)); (focus rfl); (focus exact ⟨(by first | (rw [E.out]; done) | (rw [E.out]; rfl) | (simp [E.out]; done)), ((BE.setCell (by simp; omega) _).setCell (by simp; omega) _)⟩))
            · cases d2
              · have E := Lib.hid (DE.out.trans (hul4_lost (.inr (.inl (kn_lost E2.out rfl)))))
                go_wp2_with fail
                refine (l04Whole_any _).mono ?_
                rintro e wf ⟨rfl, hb⟩
                obtain ⟨z0, zf0⟩ := own_kept hb o_kr00
                obtain ⟨z1, zf1⟩ := own_kept hb o_kr01
                have BE := BW.out.trans (hb.mono bw)
                go_wp2_with ((first | (with_reducible refine bodyPost_ret (v := .agg #[.int .i64 (-1152921504606846976), .int .i64 1152921504606846976]) ?_ ?_ ?_) | (simp only [Exit.inBlock, Exit.then]; with_reducible refine bodyPost_ret (v := .agg #[.int .i64 (-1152921504606846976), .int .i64 1152921504606846976]) ?_ ?_ ?_)); (focus (simp [results, Try.results136, go_sem, z0, z1]; done)); (focus rfl); (focus exact ⟨(by first | (rw [E.out]; done) | (rw [E.out]; rfl) | (simp [E.out]; done)), ((BE.setCell (by simp; omega) _).setCell (by simp; omega) _)⟩))
              · go_wp2_with fail
                refine (l00Min_any _ _ _).mono ?_
                rintro e w0 ⟨rfl, rfl⟩
                go_wp2_with fail
                refine (l00Max_any _ _ _).mono ?_
                rintro e w0 ⟨rfl, rfl⟩
                go_wp2
                rw [rounds_succ]
                go_wp2
                rw [rounds_succ]
                go_wp2
                refine wp_loop_rounds 3 ?_
                rw [rounds_succ]
                go_wp2_with fail
                obtain ⟨hlt2, hlt3, hlt4, hlt5, hlt6, hlt7, hlt8, hlt9, hlt10, hlt11⟩ := below_add; go_region_held3 (fun w' => w'.cell? ⟨w3.heap.size, 0, none⟩ = some (.int .i64 x.1) ∧ w'.cell? ⟨w3.heap.size, 1, none⟩ = some (.int .i64 x.2) ∧ w'.cell? ⟨w3.heap.size + 1, 0, none⟩ = some (.int .i64 y.1) ∧ w'.cell? ⟨w3.heap.size + 1, 1, none⟩ = some (.int .i64 y.2)) (first | (with_reducible exact ((And.imp (cell_kept (by assumption)) (And.imp (cell_kept (by assumption)) (And.imp (cell_kept (by assumption)) (cell_kept (by assumption))))) (by assumption))) | (with_reducible exact ((And.imp (cell_alloc) (And.imp (cell_alloc) (And.imp (cell_alloc) (cell_alloc)))) (by assumption))) | (with_reducible exact ((And.imp (fun h => cell_far (by first | (simp; done) | (simp; omega)) (cell_far (by first | (simp; done) | (simp; omega)) h)) (And.imp (fun h => cell_far (by first | (simp; done) | (simp; omega)) (cell_far (by first | (simp; done) | (simp; omega)) h)) (And.imp (fun h => cell_far (by first | (simp; done) | (simp; omega)) (cell_far (by first | (simp; done) | (simp; omega)) h)) (fun h => cell_far (by first | (simp; done) | (simp; omega)) (cell_far (by first | (simp; done) | (simp; omega)) h))))) (by assumption))) | (refine ⟨?_, ?_, ?_, ?_⟩ <;> repeat (first | (with_reducible assumption) | (with_reducible refine cell_far (by first | (simp; done) | (simp; omega)) ?_) | (with_reducible refine cell_drew ?_) | (with_reducible refine cell_drewN ?_) | (with_reducible refine cell_kept (by assumption) ?_) | (simp [go_sem]; done) | (with_reducible refine cell_alloc ?_))) | (simp [go_sem, *]; done)) ((go_at_call 179; refine (D3.out _).mono ?_; rintro e w1 ⟨rfl, hb⟩; have hs : _ ≤ w1.heap.size := hb.size; (try simp at hs); obtain ⟨hc, hf, hl, hn, hm⟩ := behind hb))
                have o_ms00 : Own (w1) (w3.heap.size) 0 (.int .i64 x.1) := ownJ; have ms00 := o_ms00.1; have f_ms00 := o_ms00.2; have o_ms01 : Own (w1) (w3.heap.size) 1 (.int .i64 x.2) := ownJ; have ms01 := o_ms01.1; have f_ms01 := o_ms01.2
                have o_mt00 : Own (w1) (w3.heap.size + 1) 0 (.int .i64 y.1) := ownJ; have mt00 := o_mt00.1; have f_mt00 := o_mt00.2; have o_mt01 : Own (w1) (w3.heap.size + 1) 1 (.int .i64 y.2) := ownJ; have mt01 := o_mt01.1; have f_mt01 := o_mt01.2
                have o_mr00 : Own (w1) (w.heap.size + 1 + 1) 0 (.int .i64 0) := ownJ; have mr00 := o_mr00.1; have f_mr00 := o_mr00.2; have o_mr01 : Own (w1) (w.heap.size + 1 + 1) 1 (.int .i64 0) := ownJ; have mr01 := o_mr01.1; have f_mr01 := o_mr01.2
                have BX : Below w.heap.size w w1 := (by repeat (first | (with_reducible exact BW.out) | (with_reducible refine Below.drew ?_) | (with_reducible refine Below.alloc ?_ (by first | omega | (simp; omega)) _) | (with_reducible refine Below.trans ?_ (Below.mono hb (by first | omega | (simp; omega))))))
                clear BW bw hb hs hc hf hl hn hm hlt2 hlt3 hlt4 hlt5 hlt6 hlt7 hlt8 hlt9 hlt10 hlt11
                have bw := BX.size
                have BW := Lib.hid BX
                clear BX
                clear o_ks00 ks00 f_ks00 o_ks01 ks01 f_ks01 o_kt00 kt00 f_kt00 o_kt01 kt01 f_kt01 o_kr00 kr00 f_kr00 o_kr01 kr01 f_kr01
                go_wp2_with fail
                obtain ⟨hlt2, hlt3, hlt4, hlt5, hlt6, hlt7, hlt8, hlt9, hlt10, hlt11⟩ := below_add; go_region_held3 (fun w' => w'.cell? ⟨w3.heap.size, 0, none⟩ = some (.int .i64 x.1) ∧ w'.cell? ⟨w3.heap.size, 1, none⟩ = some (.int .i64 x.2) ∧ w'.cell? ⟨w3.heap.size + 1, 0, none⟩ = some (.int .i64 y.1) ∧ w'.cell? ⟨w3.heap.size + 1, 1, none⟩ = some (.int .i64 y.2)) (first | (with_reducible exact ((And.imp (cell_kept (by assumption)) (And.imp (cell_kept (by assumption)) (And.imp (cell_kept (by assumption)) (cell_kept (by assumption))))) (by assumption))) | (with_reducible exact ((And.imp (cell_alloc) (And.imp (cell_alloc) (And.imp (cell_alloc) (cell_alloc)))) (by assumption))) | (with_reducible exact ((And.imp (fun h => cell_far (by first | (simp; done) | (simp; omega)) (cell_far (by first | (simp; done) | (simp; omega)) h)) (And.imp (fun h => cell_far (by first | (simp; done) | (simp; omega)) (cell_far (by first | (simp; done) | (simp; omega)) h)) (And.imp (fun h => cell_far (by first | (simp; done) | (simp; omega)) (cell_far (by first | (simp; done) | (simp; omega)) h)) (fun h => cell_far (by first | (simp; done) | (simp; omega)) (cell_far (by first | (simp; done) | (simp; omega)) h))))) (by assumption))) | (refine ⟨?_, ?_, ?_, ?_⟩ <;> repeat (first | (with_reducible assumption) | (with_reducible refine cell_far (by first | (simp; done) | (simp; omega)) ?_) | (with_reducible refine cell_drew ?_) | (with_reducible refine cell_drewN ?_) | (with_reducible refine cell_kept (by assumption) ?_) | (simp [go_sem]; done) | (with_reducible refine cell_alloc ?_))) | (simp [go_sem, *]; done)) ((go_at_call 180; refine (U3.out _).mono ?_; rintro e w1 ⟨rfl, hb⟩; have hs : _ ≤ w1.heap.size := hb.size; (try simp at hs); obtain ⟨hc, hf, hl, hn, hm⟩ := behind hb))
                have o_ks00 : Own (w1) (w3.heap.size) 0 (.int .i64 x.1) := ownJ; have ks00 := o_ks00.1; have f_ks00 := o_ks00.2; have o_ks01 : Own (w1) (w3.heap.size) 1 (.int .i64 x.2) := ownJ; have ks01 := o_ks01.1; have f_ks01 := o_ks01.2
                have o_kt00 : Own (w1) (w3.heap.size + 1) 0 (.int .i64 y.1) := ownJ; have kt00 := o_kt00.1; have f_kt00 := o_kt00.2; have o_kt01 : Own (w1) (w3.heap.size + 1) 1 (.int .i64 y.2) := ownJ; have kt01 := o_kt01.1; have f_kt01 := o_kt01.2
                have o_kr00 : Own (w1) (w.heap.size + 1 + 1) 0 (.int .i64 0) := ownJ; have kr00 := o_kr00.1; have f_kr00 := o_kr00.2; have o_kr01 : Own (w1) (w.heap.size + 1 + 1) 1 (.int .i64 0) := ownJ; have kr01 := o_kr01.1; have f_kr01 := o_kr01.2
                have BX : Below w.heap.size w w1 := (by repeat (first | (with_reducible exact BW.out) | (with_reducible refine Below.drew ?_) | (with_reducible refine Below.alloc ?_ (by first | omega | (simp; omega)) _) | (with_reducible refine Below.trans ?_ (Below.mono hb (by first | omega | (simp; omega))))))
                clear BW bw hb hs hc hf hl hn hm hlt2 hlt3 hlt4 hlt5 hlt6 hlt7 hlt8 hlt9 hlt10 hlt11
                have bw := BX.size
                have BW := Lib.hid BX
                clear BX
                clear o_ms00 ms00 f_ms00 o_ms01 ms01 f_ms01 o_mt00 mt00 f_mt00 o_mt01 mt01 f_mt01 o_mr00 mr00 f_mr00 o_mr01 mr01 f_mr01
                cases c3
                · have E := Lib.hid (DE.out.trans (hul4_lost (.inr (.inr (.inl (kn_lost E3.out rfl))))))
                  go_wp2_with fail
                  refine (l04Whole_any _).mono ?_
                  rintro e wf ⟨rfl, hb⟩
                  obtain ⟨z0, zf0⟩ := own_kept hb o_kr00
                  obtain ⟨z1, zf1⟩ := own_kept hb o_kr01
                  have BE := BW.out.trans (hb.mono bw)
                  go_wp2_with ((first | (with_reducible refine bodyPost_ret (v := .agg #[.int .i64 (-1152921504606846976), .int .i64 1152921504606846976]) ?_ ?_ ?_) | (simp only [Exit.inBlock, Exit.then]; with_reducible refine bodyPost_ret (v := .agg #[.int .i64 (-1152921504606846976), .int .i64 1152921504606846976]) ?_ ?_ ?_)); (focus (simp [results, Try.results136, go_sem, z0, z1]; done)); (focus rfl); (focus exact ⟨(by first | (rw [E.out]; done) | (rw [E.out]; rfl) | (simp [E.out]; done)), ((BE.setCell (by simp; omega) _).setCell (by simp; omega) _)⟩))
                · cases d3
                  · have E := Lib.hid (DE.out.trans (hul4_lost (.inr (.inr (.inl (kn_lost E3.out rfl))))))
                    go_wp2_with fail
                    refine (l04Whole_any _).mono ?_
                    rintro e wf ⟨rfl, hb⟩
                    obtain ⟨z0, zf0⟩ := own_kept hb o_kr00
                    obtain ⟨z1, zf1⟩ := own_kept hb o_kr01
                    have BE := BW.out.trans (hb.mono bw)
                    go_wp2_with ((first | (with_reducible refine bodyPost_ret (v := .agg #[.int .i64 (-1152921504606846976), .int .i64 1152921504606846976]) ?_ ?_ ?_) | (simp only [Exit.inBlock, Exit.then]; with_reducible refine bodyPost_ret (v := .agg #[.int .i64 (-1152921504606846976), .int .i64 1152921504606846976]) ?_ ?_ ?_)); (focus (simp [results, Try.results136, go_sem, z0, z1]; done)); (focus rfl); (focus exact ⟨(by first | (rw [E.out]; done) | (rw [E.out]; rfl) | (simp [E.out]; done)), ((BE.setCell (by simp; omega) _).setCell (by simp; omega) _)⟩))
                  · go_wp2_with fail
                    refine (l00Min_any _ _ _).mono ?_
                    rintro e w0 ⟨rfl, rfl⟩
                    go_wp2_with fail
                    refine (l00Max_any _ _ _).mono ?_
                    rintro e w0 ⟨rfl, rfl⟩
                    go_wp2
                    rw [rounds_succ]
                    go_wp2_with fail
                    obtain ⟨hlt2, hlt3, hlt4, hlt5, hlt6, hlt7, hlt8, hlt9, hlt10, hlt11⟩ := below_add; go_region_held3 (fun w' => w'.cell? ⟨w3.heap.size, 0, none⟩ = some (.int .i64 x.1) ∧ w'.cell? ⟨w3.heap.size, 1, none⟩ = some (.int .i64 x.2) ∧ w'.cell? ⟨w3.heap.size + 1, 0, none⟩ = some (.int .i64 y.1) ∧ w'.cell? ⟨w3.heap.size + 1, 1, none⟩ = some (.int .i64 y.2)) (first | (with_reducible exact ((And.imp (cell_kept (by assumption)) (And.imp (cell_kept (by assumption)) (And.imp (cell_kept (by assumption)) (cell_kept (by assumption))))) (by assumption))) | (with_reducible exact ((And.imp (cell_alloc) (And.imp (cell_alloc) (And.imp (cell_alloc) (cell_alloc)))) (by assumption))) | (with_reducible exact ((And.imp (fun h => cell_far (by first | (simp; done) | (simp; omega)) (cell_far (by first | (simp; done) | (simp; omega)) h)) (And.imp (fun h => cell_far (by first | (simp; done) | (simp; omega)) (cell_far (by first | (simp; done) | (simp; omega)) h)) (And.imp (fun h => cell_far (by first | (simp; done) | (simp; omega)) (cell_far (by first | (simp; done) | (simp; omega)) h)) (fun h => cell_far (by first | (simp; done) | (simp; omega)) (cell_far (by first | (simp; done) | (simp; omega)) h))))) (by assumption))) | (refine ⟨?_, ?_, ?_, ?_⟩ <;> repeat (first | (with_reducible assumption) | (with_reducible refine cell_far (by first | (simp; done) | (simp; omega)) ?_) | (with_reducible refine cell_drew ?_) | (with_reducible refine cell_drewN ?_) | (with_reducible refine cell_kept (by assumption) ?_) | (simp [go_sem]; done) | (with_reducible refine cell_alloc ?_))) | (simp [go_sem, *]; done)) ((go_at_call 179; refine (D4.out _).mono ?_; rintro e w1 ⟨rfl, hb⟩; have hs : _ ≤ w1.heap.size := hb.size; (try simp at hs); obtain ⟨hc, hf, hl, hn, hm⟩ := behind hb))
                    have o_ms00 : Own (w1) (w3.heap.size) 0 (.int .i64 x.1) := ownJ; have ms00 := o_ms00.1; have f_ms00 := o_ms00.2; have o_ms01 : Own (w1) (w3.heap.size) 1 (.int .i64 x.2) := ownJ; have ms01 := o_ms01.1; have f_ms01 := o_ms01.2
                    have o_mt00 : Own (w1) (w3.heap.size + 1) 0 (.int .i64 y.1) := ownJ; have mt00 := o_mt00.1; have f_mt00 := o_mt00.2; have o_mt01 : Own (w1) (w3.heap.size + 1) 1 (.int .i64 y.2) := ownJ; have mt01 := o_mt01.1; have f_mt01 := o_mt01.2
                    have o_mr00 : Own (w1) (w.heap.size + 1 + 1) 0 (.int .i64 0) := ownJ; have mr00 := o_mr00.1; have f_mr00 := o_mr00.2; have o_mr01 : Own (w1) (w.heap.size + 1 + 1) 1 (.int .i64 0) := ownJ; have mr01 := o_mr01.1; have f_mr01 := o_mr01.2
                    have BX : Below w.heap.size w w1 := (by repeat (first | (with_reducible exact BW.out) | (with_reducible refine Below.drew ?_) | (with_reducible refine Below.alloc ?_ (by first | omega | (simp; omega)) _) | (with_reducible refine Below.trans ?_ (Below.mono hb (by first | omega | (simp; omega))))))
                    clear BW bw hb hs hc hf hl hn hm hlt2 hlt3 hlt4 hlt5 hlt6 hlt7 hlt8 hlt9 hlt10 hlt11
                    have bw := BX.size
                    have BW := Lib.hid BX
                    clear BX
                    clear o_ks00 ks00 f_ks00 o_ks01 ks01 f_ks01 o_kt00 kt00 f_kt00 o_kt01 kt01 f_kt01 o_kr00 kr00 f_kr00 o_kr01 kr01 f_kr01
                    go_wp2_with fail
                    obtain ⟨hlt2, hlt3, hlt4, hlt5, hlt6, hlt7, hlt8, hlt9, hlt10, hlt11⟩ := below_add; go_region_held3 (fun w' => w'.cell? ⟨w3.heap.size, 0, none⟩ = some (.int .i64 x.1) ∧ w'.cell? ⟨w3.heap.size, 1, none⟩ = some (.int .i64 x.2) ∧ w'.cell? ⟨w3.heap.size + 1, 0, none⟩ = some (.int .i64 y.1) ∧ w'.cell? ⟨w3.heap.size + 1, 1, none⟩ = some (.int .i64 y.2)) (first | (with_reducible exact ((And.imp (cell_kept (by assumption)) (And.imp (cell_kept (by assumption)) (And.imp (cell_kept (by assumption)) (cell_kept (by assumption))))) (by assumption))) | (with_reducible exact ((And.imp (cell_alloc) (And.imp (cell_alloc) (And.imp (cell_alloc) (cell_alloc)))) (by assumption))) | (with_reducible exact ((And.imp (fun h => cell_far (by first | (simp; done) | (simp; omega)) (cell_far (by first | (simp; done) | (simp; omega)) h)) (And.imp (fun h => cell_far (by first | (simp; done) | (simp; omega)) (cell_far (by first | (simp; done) | (simp; omega)) h)) (And.imp (fun h => cell_far (by first | (simp; done) | (simp; omega)) (cell_far (by first | (simp; done) | (simp; omega)) h)) (fun h => cell_far (by first | (simp; done) | (simp; omega)) (cell_far (by first | (simp; done) | (simp; omega)) h))))) (by assumption))) | (refine ⟨?_, ?_, ?_, ?_⟩ <;> repeat (first | (with_reducible assumption) | (with_reducible refine cell_far (by first | (simp; done) | (simp; omega)) ?_) | (with_reducible refine cell_drew ?_) | (with_reducible refine cell_drewN ?_) | (with_reducible refine cell_kept (by assumption) ?_) | (simp [go_sem]; done) | (with_reducible refine cell_alloc ?_))) | (simp [go_sem, *]; done)) ((go_at_call 180; refine (U4.out _).mono ?_; rintro e w1 ⟨rfl, hb⟩; have hs : _ ≤ w1.heap.size := hb.size; (try simp at hs); obtain ⟨hc, hf, hl, hn, hm⟩ := behind hb))
                    have o_ks00 : Own (w1) (w3.heap.size) 0 (.int .i64 x.1) := ownJ; have ks00 := o_ks00.1; have f_ks00 := o_ks00.2; have o_ks01 : Own (w1) (w3.heap.size) 1 (.int .i64 x.2) := ownJ; have ks01 := o_ks01.1; have f_ks01 := o_ks01.2
                    have o_kt00 : Own (w1) (w3.heap.size + 1) 0 (.int .i64 y.1) := ownJ; have kt00 := o_kt00.1; have f_kt00 := o_kt00.2; have o_kt01 : Own (w1) (w3.heap.size + 1) 1 (.int .i64 y.2) := ownJ; have kt01 := o_kt01.1; have f_kt01 := o_kt01.2
                    have o_kr00 : Own (w1) (w.heap.size + 1 + 1) 0 (.int .i64 0) := ownJ; have kr00 := o_kr00.1; have f_kr00 := o_kr00.2; have o_kr01 : Own (w1) (w.heap.size + 1 + 1) 1 (.int .i64 0) := ownJ; have kr01 := o_kr01.1; have f_kr01 := o_kr01.2
                    have BX : Below w.heap.size w w1 := (by repeat (first | (with_reducible exact BW.out) | (with_reducible refine Below.drew ?_) | (with_reducible refine Below.alloc ?_ (by first | omega | (simp; omega)) _) | (with_reducible refine Below.trans ?_ (Below.mono hb (by first | omega | (simp; omega))))))
                    clear BW bw hb hs hc hf hl hn hm hlt2 hlt3 hlt4 hlt5 hlt6 hlt7 hlt8 hlt9 hlt10 hlt11
                    have bw := BX.size
                    have BW := Lib.hid BX
                    clear BX
                    clear o_ms00 ms00 f_ms00 o_ms01 ms01 f_ms01 o_mt00 mt00 f_mt00 o_mt01 mt01 f_mt01 o_mr00 mr00 f_mr00 o_mr01 mr01 f_mr01
                    cases c4
                    · have E := Lib.hid (DE.out.trans (hul4_lost (.inr (.inr (.inr (kn_lost E4.out rfl))))))
                      go_wp2_with fail
                      refine (l04Whole_any _).mono ?_
                      rintro e wf ⟨rfl, hb⟩
                      obtain ⟨z0, zf0⟩ := own_kept hb o_kr00
                      obtain ⟨z1, zf1⟩ := own_kept hb o_kr01
                      have BE := BW.out.trans (hb.mono bw)
                      go_wp2_with ((first | (with_reducible refine bodyPost_ret (v := .agg #[.int .i64 (-1152921504606846976), .int .i64 1152921504606846976]) ?_ ?_ ?_) | (simp only [Exit.inBlock, Exit.then]; with_reducible refine bodyPost_ret (v := .agg #[.int .i64 (-1152921504606846976), .int .i64 1152921504606846976]) ?_ ?_ ?_)); (focus (simp [results, Try.results136, go_sem, z0, z1]; done)); (focus rfl); (focus exact ⟨(by first | (rw [E.out]; done) | (rw [E.out]; rfl) | (simp [E.out]; done)), ((BE.setCell (by simp; omega) _).setCell (by simp; omega) _)⟩))
                    · cases d4
                      · have E := Lib.hid (DE.out.trans (hul4_lost (.inr (.inr (.inr (kn_lost E4.out rfl))))))
                        go_wp2_with fail
                        refine (l04Whole_any _).mono ?_
                        rintro e wf ⟨rfl, hb⟩
                        obtain ⟨z0, zf0⟩ := own_kept hb o_kr00
                        obtain ⟨z1, zf1⟩ := own_kept hb o_kr01
                        have BE := BW.out.trans (hb.mono bw)
                        go_wp2_with ((first | (with_reducible refine bodyPost_ret (v := .agg #[.int .i64 (-1152921504606846976), .int .i64 1152921504606846976]) ?_ ?_ ?_) | (simp only [Exit.inBlock, Exit.then]; with_reducible refine bodyPost_ret (v := .agg #[.int .i64 (-1152921504606846976), .int .i64 1152921504606846976]) ?_ ?_ ?_)); (focus (simp [results, Try.results136, go_sem, z0, z1]; done)); (focus rfl); (focus exact ⟨(by first | (rw [E.out]; done) | (rw [E.out]; rfl) | (simp [E.out]; done)), ((BE.setCell (by simp; omega) _).setCell (by simp; omega) _)⟩))
                      · go_wp2_with fail
                        refine (l00Min_any _ _ _).mono ?_
                        rintro e w0 ⟨rfl, rfl⟩
                        go_wp2_with fail
                        refine (l00Max_any _ _ _).mono ?_
                        rintro e w0 ⟨rfl, rfl⟩
                        go_wp2
                        have E := Lib.hid (DE.out.trans (four_all E1.out E2.out E3.out E4.out (O1.out (by trivial) (by trivial)).2 (O2.out (by trivial) (by trivial)).2 (O3.out (by trivial) (by trivial)).2 (O4.out (by trivial) (by trivial)).2 F1.out F2.out F3.out F4.out))
                        have LM := Lib.hid (fun w => l04Make_any (min 1152921504606846976 (min l1 (min l2 (min l3 l4)))) (max (-1152921504606846976) (max h1 (max h2 (max h3 h4)))) w)
                        rw [rounds_succ]
                        go_wp2
                        rw [rounds_succ]
                        go_wp2_with fail
                        refine (LM.out _).mono ?_
                        rintro e wf ⟨rfl, hb⟩
                        obtain ⟨z0, zf0⟩ := own_kept hb o_kr00
                        obtain ⟨z1, zf1⟩ := own_kept hb o_kr01
                        have BE := BW.out.trans (hb.mono bw)
                        go_wp2_with ((first | (with_reducible refine bodyPost_ret (v := .agg #[.int .i64 (can (min 1152921504606846976 (min l1 (min l2 (min l3 l4))), max (-1152921504606846976) (max h1 (max h2 (max h3 h4))))).1, .int .i64 (can (min 1152921504606846976 (min l1 (min l2 (min l3 l4))), max (-1152921504606846976) (max h1 (max h2 (max h3 h4))))).2]) ?_ ?_ ?_) | (simp only [Exit.inBlock, Exit.then]; with_reducible refine bodyPost_ret (v := .agg #[.int .i64 (can (min 1152921504606846976 (min l1 (min l2 (min l3 l4))), max (-1152921504606846976) (max h1 (max h2 (max h3 h4))))).1, .int .i64 (can (min 1152921504606846976 (min l1 (min l2 (min l3 l4))), max (-1152921504606846976) (max h1 (max h2 (max h3 h4))))).2]) ?_ ?_ ?_)); (focus (simp [results, Try.results136, go_sem, z0, z1]; done)); (focus rfl); (focus exact ⟨(by first | (rw [E.out]; done) | (rw [E.out]; rfl) | (simp [E.out]; done)), ((BE.setCell (by simp; omega) _).setCell (by simp; omega) _)⟩))
    · have B2 := Lib.hid (bnd_no h2)
      have E := Lib.hid (show divI x y = whl from if_neg (fun k => h2 k.2.1))
      clear h1 h2
      go_enter Try.func136, Try.ntmps136
      go_wp2_with fail
      refine (l04Ok_any x _).mono ?_
      rintro e w1 ⟨rfl, hb1⟩
      have hs1 : _ ≤ w1.heap.size := hb1.size
      try simp at hs1
      rw [B1.out]
      have o_qa10 : Own (w1) (w.heap.size) 0 (.int .i64 x.1) := ownJ; obtain ⟨qa10, f_qa10⟩ := o_qa10; have o_qa11 : Own (w1) (w.heap.size) 1 (.int .i64 x.2) := ownJ; obtain ⟨qa11, f_qa11⟩ := o_qa11
      have o_qb10 : Own (w1) (w.heap.size + 1) 0 (.int .i64 y.1) := ownJ; obtain ⟨qb10, f_qb10⟩ := o_qb10; have o_qb11 : Own (w1) (w.heap.size + 1) 1 (.int .i64 y.2) := ownJ; obtain ⟨qb11, f_qb11⟩ := o_qb11
      have o_qr10 : Own (w1) (w.heap.size + 1 + 1) 0 (.int .i64 0) := ownJ; obtain ⟨qr10, f_qr10⟩ := o_qr10; have o_qr11 : Own (w1) (w.heap.size + 1 + 1) 1 (.int .i64 0) := ownJ; obtain ⟨qr11, f_qr11⟩ := o_qr11
      go_wp2_with fail
      refine (l04Ok_any y _).mono ?_
      rintro e w2 ⟨rfl, hb2⟩
      have hs2 : _ ≤ w2.heap.size := hb2.size
      try simp at hs2
      rw [B2.out]
      have o_qr20 : Own (w2) (w.heap.size + 1 + 1) 0 (.int .i64 0) := ownJ; obtain ⟨qr20, f_qr20⟩ := o_qr20; have o_qr21 : Own (w2) (w.heap.size + 1 + 1) 1 (.int .i64 0) := ownJ; obtain ⟨qr21, f_qr21⟩ := o_qr21
      go_wp2_with fail
      refine (l04Whole_any _).mono ?_
      rintro e w3 ⟨rfl, hb3⟩
      have hs3 : _ ≤ w3.heap.size := hb3.size
      try simp at hs3
      have o_qr30 : Own (w3) (w.heap.size + 1 + 1) 0 (.int .i64 0) := ownJ; obtain ⟨qr30, f_qr30⟩ := o_qr30; have o_qr31 : Own (w3) (w.heap.size + 1 + 1) 1 (.int .i64 0) := ownJ; obtain ⟨qr31, f_qr31⟩ := o_qr31
      go_wp2
      exact bodyPost_ret (v := .agg #[.int .i64 (-1152921504606846976), .int .i64 1152921504606846976]) (by simp [results, Try.results136, go_sem, qr30, qr31]) rfl ⟨(by first | (rw [E.out]; done) | (rw [E.out]; rfl) | (simp [E.out]; done)), belB⟩
  · have B1 := Lib.hid (bnd_no h1)
    have E := Lib.hid (show divI x y = whl from if_neg (fun k => h1 k.1))
    clear h1
    go_enter Try.func136, Try.ntmps136
    go_wp2_with fail
    refine (l04Ok_any x _).mono ?_
    rintro e w1 ⟨rfl, hb1⟩
    have hs1 : _ ≤ w1.heap.size := hb1.size
    try simp at hs1
    rw [B1.out]
    have o_qr10 : Own (w1) (w.heap.size + 1 + 1) 0 (.int .i64 0) := ownJ; obtain ⟨qr10, f_qr10⟩ := o_qr10; have o_qr11 : Own (w1) (w.heap.size + 1 + 1) 1 (.int .i64 0) := ownJ; obtain ⟨qr11, f_qr11⟩ := o_qr11
    go_wp2_with fail
    refine (l04Whole_any _).mono ?_
    rintro e w2 ⟨rfl, hb2⟩
    have hs2 : _ ≤ w2.heap.size := hb2.size
    try simp at hs2
    have o_qr20 : Own (w2) (w.heap.size + 1 + 1) 0 (.int .i64 0) := ownJ; obtain ⟨qr20, f_qr20⟩ := o_qr20; have o_qr21 : Own (w2) (w.heap.size + 1 + 1) 1 (.int .i64 0) := ownJ; obtain ⟨qr21, f_qr21⟩ := o_qr21
    go_wp2
    exact bodyPost_ret (v := .agg #[.int .i64 (-1152921504606846976), .int .i64 1152921504606846976]) (by simp [results, Try.results136, go_sem, qr20, qr21]) rfl ⟨(by first | (rw [E.out]; done) | (rw [E.out]; rfl) | (simp [E.out]; done)), belB⟩
end Go.Proofs.Ytmikjgbojknlnaa
