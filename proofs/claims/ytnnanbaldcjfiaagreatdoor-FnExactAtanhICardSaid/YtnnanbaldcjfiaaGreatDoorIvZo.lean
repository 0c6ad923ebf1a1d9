/- Contracts of tests of intervals, program and model alike. Conditions: numbers are int64. Contracts of absolute values in the model. Conditions: numbers are int64. -/
import Derived.Test.YtnnanbaldcjfiaaGreatDoorIvN
import Derived.Test.YtnnanbaldcjfiaaGreatDoorIvF
import Derived.Outline
namespace Go.Proofs.YtnnanbaldcjfiaaGreatDoor
open Go.ChangeShapes Go.WideShapes Go.ChangeAt Go.RowKit
set_option linter.unusedVariables false
set_option maxRecDepth 100000
set_option linter.unusedSimpArgs false
set_option maxHeartbeats 1000000

end Go.Proofs.YtnnanbaldcjfiaaGreatDoor
namespace Go.Proofs.YtnnanbaldcjfiaaGreatDoor
open Go.ChangeShapes Go.WideShapes Go.ChangeAt Go.RowKit
set_option linter.unusedVariables false
set_option maxRecDepth 100000
set_option linter.unusedSimpArgs false
set_option maxHeartbeats 1000000

theorem l04Ends_any (x : Iv) (h : Bnd x) (w : World) : Calls Tryz.prog 78 #[.agg #[.int .i64 x.1, .int .i64 x.2]] w fun e w' =>
    e = .returned (.tuple #[.int .i64 (absN x), .int .i64 (absF x)]) ∧ Below w.heap.size w w' := by
  by_cases z : x.1 ≤ 0 ∧ 0 ≤ x.2
  · have HZ := Lib.hid (show decide (x.1 ≤ 0 ∧ 0 ≤ x.2) = true from decide_eq_true z)
    have EN := Lib.hid (show absN x = 0 from if_pos z)
    have EF := Lib.hid (show absF x = max (max x.1 (-x.1)) (max x.2 (-x.2)) from rfl)
    obtain ⟨xa, xb, xc⟩ := h
    have g1 : -1152921504606846976 < x.2 := by omega
    have g2 : x.1 < 1152921504606846976 := by omega
    clear z
    go_enter Tryz.func78, Tryz.ntmps78
    go_wp2_with fail
    refine (l00Max_any x.1 (-x.1) _).mono ?_
    rintro e w0 ⟨rfl, rfl⟩
    go_wp2_with fail
    refine (l00Max_any x.2 (-x.2) _).mono ?_
    rintro e w0 ⟨rfl, rfl⟩
    go_wp2_with fail
    refine (l04Has_any x 0 _).mono ?_
    rintro e w1 ⟨rfl, hb1⟩
    have hs1 : _ ≤ w1.heap.size := hb1.size
    try simp at hs1
    rw [HZ.out]
    go_wp2_with fail
    refine (l00Max_any _ _ _).mono ?_
    rintro e w0 ⟨rfl, rfl⟩
    go_wp2
    go_ret2
    exact ⟨(by first | (rw [EN.out, EF.out]; done) | (rw [EN.out, EF.out]; rfl) | (simp [EN.out, EF.out]; done)), belB⟩
  · have HZ := Lib.hid (show decide (x.1 ≤ 0 ∧ 0 ≤ x.2) = false from decide_eq_false z)
    have EN := Lib.hid (show absN x = min (max x.1 (-x.1)) (max x.2 (-x.2)) from if_neg z)
    have EF := Lib.hid (show absF x = max (max x.1 (-x.1)) (max x.2 (-x.2)) from rfl)
    obtain ⟨xa, xb, xc⟩ := h
    have g1 : -1152921504606846976 < x.2 := by omega
    have g2 : x.1 < 1152921504606846976 := by omega
    clear z
    go_enter Tryz.func78, Tryz.ntmps78
    go_wp2_with fail
    refine (l00Max_any x.1 (-x.1) _).mono ?_
    rintro e w0 ⟨rfl, rfl⟩
    go_wp2_with fail
    refine (l00Max_any x.2 (-x.2) _).mono ?_
    rintro e w0 ⟨rfl, rfl⟩
    go_wp2_with fail
    refine (l04Has_any x 0 _).mono ?_
    rintro e w1 ⟨rfl, hb1⟩
    have hs1 : _ ≤ w1.heap.size := hb1.size
    try simp at hs1
    rw [HZ.out]
    go_wp2_with fail
    refine (l00Min_any _ _ _).mono ?_
    rintro e w0 ⟨rfl, rfl⟩
    go_wp2_with fail
    refine (l00Max_any _ _ _).mono ?_
    rintro e w0 ⟨rfl, rfl⟩
    go_wp2
    go_ret2
    exact ⟨(by first | (rw [EN.out, EF.out]; done) | (rw [EN.out, EF.out]; rfl) | (simp [EN.out, EF.out]; done)), belB⟩
end Go.Proofs.YtnnanbaldcjfiaaGreatDoor
