/- Contracts of integers and quotients in the model. Conditions: numbers are int64. -/
import Derived.Test.YtmikjgbojknlnaaIvM
import Derived.Test.YtmikjgbojknlnaaFixE
import Derived.Outline
namespace Go.Proofs.Ytmikjgbojknlnaa
open Go.ChangeShapes Go.WideShapes Go.ChangeAt Go.RowKit
set_option linter.unusedVariables false
set_option maxRecDepth 100000
set_option linter.unusedSimpArgs false
set_option maxHeartbeats 1000000

theorem sInteger_any (a : Int) (ha : In64 a) (w : World) : Calls Try.prog 99 #[.int .i64 a] w fun e w' =>
    e = .returned (.agg #[.int .i64 (intI a).1, .int .i64 (intI a).2]) ∧ Below w.heap.size w w' := by
  by_cases c : -268435455 ≤ a ∧ a ≤ 268435455
  · have E := Lib.hid (intI_yes c.1 c.2)
    have C := Lib.hid (fun w => l00In_yes a (-268435455) 268435455 c.1 c.2 w)
    have LM := Lib.hid (fun w => l04Make_any (a * 4294967296) (a * 4294967296) w)
    have CY := Lib.hid (show can (a * 4294967296, a * 4294967296) = (a * 4294967296, a * 4294967296) from can_yes (by unfold Bnd; simp; omega))
    obtain ⟨c0, c1⟩ := c
    clear ha
    go_enter Try.func99, Try.ntmps99
    go_wp2_with fail
    refine (C.out _).mono ?_
    rintro e w0 ⟨rfl, rfl⟩
    go_wp2_with fail
    refine (LM.out _).mono ?_
    rintro e w1 ⟨rfl, hb1⟩
    have hs1 : _ ≤ w1.heap.size := hb1.size
    try simp at hs1
    rw [CY.out]
    have o_qr10 : Own (w1) (w.heap.size) 0 (.int .i64 0) := ownJ; obtain ⟨qr10, f_qr10⟩ := o_qr10; have o_qr11 : Own (w1) (w.heap.size) 1 (.int .i64 0) := ownJ; obtain ⟨qr11, f_qr11⟩ := o_qr11
    go_wp2
    exact bodyPost_ret (v := .agg #[.int .i64 (a * 4294967296), .int .i64 (a * 4294967296)]) (by simp [results, Try.results99, go_sem, qr10, qr11]) rfl ⟨(by first | (rw [E.out]; done) | (rw [E.out]; rfl) | (simp [E.out]; done)), belB⟩
  · have c' : a < -268435455 ∨ 268435455 < a := by omega
    have E := Lib.hid (intI_no c')
    have C := Lib.hid (fun w => l00In_no a (-268435455) 268435455 c' w)
    clear c c' ha
    go_enter Try.func99, Try.ntmps99
    go_wp2_with fail
    refine (C.out _).mono ?_
    rintro e w0 ⟨rfl, rfl⟩
    go_wp2_with fail
    refine (l04Whole_any _).mono ?_
    rintro e w1 ⟨rfl, hb1⟩
    have hs1 : _ ≤ w1.heap.size := hb1.size
    try simp at hs1
    have o_qr10 : Own (w1) (w.heap.size) 0 (.int .i64 0) := ownJ; obtain ⟨qr10, f_qr10⟩ := o_qr10; have o_qr11 : Own (w1) (w.heap.size) 1 (.int .i64 0) := ownJ; obtain ⟨qr11, f_qr11⟩ := o_qr11
    go_wp2
    exact bodyPost_ret (v := .agg #[.int .i64 (-1152921504606846976), .int .i64 1152921504606846976]) (by simp [results, Try.results99, go_sem, qr10, qr11]) rfl ⟨(by first | (rw [E.out]; done) | (rw [E.out]; rfl) | (simp [E.out]; done)), belB⟩
end Go.Proofs.Ytmikjgbojknlnaa
