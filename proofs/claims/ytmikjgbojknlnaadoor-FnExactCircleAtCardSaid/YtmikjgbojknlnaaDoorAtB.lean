/- Contracts of the root of 1 minus a square, program and model. Conditions: numbers are int64; the program's two intervals are laid. -/
import Derived.Test.YtmikjgbojknlnaaDoorNumX
import Derived.Test.YtmikjgbojknlnaaDoorAtZ
import Derived.Test.YtmikjgbojknlnaaDoorFixB
import Derived.Test.YtmikjgbojknlnaaDoorIvF
import Derived.Test.YtmikjgbojknlnaaDoorIvA
import Derived.Test.YtmikjgbojknlnaaDoorIvN
import Derived.Test.YtmikjgbojknlnaaDoorIvM
import Derived.Test.YtmikjgbojknlnaaDoorWideZp
import Derived.Test.YtmikjgbojknlnaaDoorFixF
import Derived.Deep.RegionHeld3
import Derived.Outline
namespace Go.Proofs.YtmikjgbojknlnaaDoor
open Go.ChangeShapes Go.WideShapes Go.ChangeAt Go.RowKit
set_option linter.unusedVariables false
set_option maxRecDepth 100000
set_option linter.unusedSimpArgs false
set_option maxHeartbeats 1000000
theorem cir_sq {n : Int} (h : InR n) : sqW ((4294967296 - n) * (4294967296 + n)) = cirD n ∧ sqOk ((4294967296 - n) * (4294967296 + n)) = true ∧ sqU ((4294967296 - n) * (4294967296 + n)) = cirU n := by
  have b := cirP_in h
  have e : cirP n = (4294967296 - n) * (4294967296 + n) := rfl
  rw [← e]
  have e1 : sqW (cirP n) = cirD n := if_neg (by omega)
  refine ⟨e1, by unfold sqOk; exact decide_eq_true (by omega), ?_⟩
  unfold sqU cirU
  rw [e1]
theorem CircleAt_any (n : Int) (w : World) (hg : GloR w) : Calls Tryd.prog 5 #[.int .i64 n] w fun e w' =>
    e = .returned (.agg #[.int .i64 (cirC n).1, .int .i64 (cirC n).2]) ∧ Below w.heap.size w w' := by
  obtain ⟨g0, g1⟩ := hg
  have lg0 : 0 < w.heap.size := World.block_lt_of_cell? _ _ g0
  have H := Lib.hid (fun w => HasI_any rng n w)
  by_cases h : InR n
  · have hh : hasI rng n = true := by unfold hasI rng; unfold InR at h; simp; omega
    rw [hh] at H
    have E := Lib.hid (show cirC n = (cirD n, cirU n) from if_pos h)
    obtain ⟨b0, b1, b2, b3⟩ := cirD_in h
    have h' := h
    unfold InR at h'
    have p := cirP_in h
    have e : cirP n = (4294967296 - n) * (4294967296 + n) := rfl
    rw [e] at p
    have M := Lib.hid (fun w => WideMul_any (4294967296 - n) (4294967296 + n) (by unfold In64; omega) (by unfold In64; omega) w)
    have CD := Lib.hid (fun w => fixOf_rdown ((4294967296 - n) * (4294967296 + n)) (by unfold InW; omega) (by omega) w)
    have CU := Lib.hid (fun w => fixOf_rup ((4294967296 - n) * (4294967296 + n)) (by unfold InW; omega) (by omega) w)
    rw [(cir_sq h).1, (cir_sq h).2.1] at CD
    rw [(cir_sq h).2.2, (cir_sq h).2.1] at CU
    rw [(res_yes (c := true) rfl (show InF (cirD n) by unfold InF; omega)).1, (res_yes (c := true) rfl (show InF (cirD n) by unfold InF; omega)).2] at CD
    rw [(res_yes (c := true) rfl (show InF (cirU n) by unfold InF; omega)).1, (res_yes (c := true) rfl (show InF (cirU n) by unfold InF; omega)).2] at CU
    clear e p
    obtain ⟨a, ha⟩ : ∃ a, a = 4294967296 - n := ⟨_, rfl⟩
    obtain ⟨b, hb⟩ : ∃ b, b = 4294967296 + n := ⟨_, rfl⟩
    rw [← ha, ← hb] at CD CU M
    have W1 : IntKind.i64.wrap (4294967296 - n) = a := by rw [IntKind.wrap_i64]; omega
    have W2 : IntKind.i64.wrap (4294967296 + n) = b := by rw [IntKind.wrap_i64]; omega
    clear ha hb
    obtain ⟨v, hv⟩ : ∃ v, v = a * b := ⟨_, rfl⟩
    rw [← hv] at CD CU M
    clear hv
    have IT := Lib.hid (fun w => interval_any (cirD n) (cirU n) true w)
    have ek : kn true (cirD n, cirU n) = (cirD n, cirU n) := kn_bnd (by unfold Bnd; simp only; omega)
    rw [ek] at IT
    clear h h' hh ek
    generalize cirD n = r at *
    generalize cirU n = u at *
    go_enter Tryd.func5, Tryd.ntmps5
    go_wp2_with fail
    refine (H.out _).mono ?_
    rintro e w1 ⟨rfl, hb1⟩
    have hs1 : _ ≤ w1.heap.size := hb1.size
    try simp at hs1
    have o_q10 : Own (w1) (w.heap.size) 0 (.int .i64 0) := ownJ; have q10 := o_q10.1; have f_q10 := o_q10.2; have o_q11 : Own (w1) (w.heap.size) 1 (.int .i64 0) := ownJ; have q11 := o_q11.1; have f_q11 := o_q11.2
    go_wp2_with fail
    refine (M.out _).mono ?_
    rintro e w5 ⟨rfl, hb5⟩
    have hs5 : _ ≤ w5.heap.size := hb5.size
    try simp at hs5
    have o_q50 : Own (w5) (w.heap.size) 0 (.int .i64 0) := ownJ; have q50 := o_q50.1; have f_q50 := o_q50.2; have o_q51 : Own (w5) (w.heap.size) 1 (.int .i64 0) := ownJ; have q51 := o_q51.1; have f_q51 := o_q51.2
    go_wp2_with fail
    refine (CD.out _).mono ?_
    rintro e w2 ⟨rfl, hb2⟩
    have hs2 : _ ≤ w2.heap.size := hb2.size
    try simp at hs2
    have o_q20 : Own (w2) (w.heap.size) 0 (.int .i64 0) := ownJ; have q20 := o_q20.1; have f_q20 := o_q20.2; have o_q21 : Own (w2) (w.heap.size) 1 (.int .i64 0) := ownJ; have q21 := o_q21.1; have f_q21 := o_q21.2
    have o_h20 : Own (w2) (w5.heap.size) 0 (.int .i64 (hiW v)) := ownJ; have h20 := o_h20.1; have f_h20 := o_h20.2; have o_h21 : Own (w2) (w5.heap.size) 1 (.int .u64 (loW v)) := ownJ; have h21 := o_h21.1; have f_h21 := o_h21.2
    go_wp2_with fail
    refine (CU.out _).mono ?_
    rintro e w3 ⟨rfl, hb3⟩
    have hs3 : _ ≤ w3.heap.size := hb3.size
    try simp at hs3
    have o_q30 : Own (w3) (w.heap.size) 0 (.int .i64 0) := ownJ; have q30 := o_q30.1; have f_q30 := o_q30.2; have o_q31 : Own (w3) (w.heap.size) 1 (.int .i64 0) := ownJ; have q31 := o_q31.1; have f_q31 := o_q31.2
    go_wp2_with fail
    refine (IT.out _).mono ?_
    rintro e w4 ⟨rfl, hb4⟩
    have hs4 : _ ≤ w4.heap.size := hb4.size
    try simp at hs4
    have o_q40 : Own (w4) (w.heap.size) 0 (.int .i64 0) := ownJ; obtain ⟨q40, f_q40⟩ := o_q40; have o_q41 : Own (w4) (w.heap.size) 1 (.int .i64 0) := ownJ; obtain ⟨q41, f_q41⟩ := o_q41
    go_wp2
    exact bodyPost_ret (v := .agg #[.int .i64 r, .int .i64 u]) (by simp [results, Tryd.results5, go_sem, q40, q41]) rfl ⟨(by first | (rw [E.out]; done) | (rw [E.out]; rfl) | (simp [E.out]; done)), belB⟩
  · have hh : hasI rng n = false := by unfold hasI rng Bnd; unfold InR at h; simp; omega
    rw [hh] at H
    have E := Lib.hid (show cirC n = whl from if_neg h)
    clear h hh
    go_enter Tryd.func5, Tryd.ntmps5
    go_wp2_with fail
    refine (H.out _).mono ?_
    rintro e w1 ⟨rfl, hb1⟩
    have hs1 : _ ≤ w1.heap.size := hb1.size
    try simp at hs1
    have o_q10 : Own (w1) (w.heap.size) 0 (.int .i64 0) := ownJ; have q10 := o_q10.1; have f_q10 := o_q10.2; have o_q11 : Own (w1) (w.heap.size) 1 (.int .i64 0) := ownJ; have q11 := o_q11.1; have f_q11 := o_q11.2
    go_wp2_with fail
    refine (Whole_any _).mono ?_
    rintro e w2 ⟨rfl, hb2⟩
    have hs2 : _ ≤ w2.heap.size := hb2.size
    try simp at hs2
    have o_q20 : Own (w2) (w.heap.size) 0 (.int .i64 0) := ownJ; obtain ⟨q20, f_q20⟩ := o_q20; have o_q21 : Own (w2) (w.heap.size) 1 (.int .i64 0) := ownJ; obtain ⟨q21, f_q21⟩ := o_q21
    go_wp2
    exact bodyPost_ret (v := .agg #[.int .i64 (-1152921504606846976), .int .i64 1152921504606846976]) (by simp [results, Tryd.results5, go_sem, q20, q21]) rfl ⟨(by first | (rw [E.out]; done) | (rw [E.out]; rfl) | (simp [E.out]; done)), belB⟩
end Go.Proofs.YtmikjgbojknlnaaDoor
