/- Contracts of tests of intervals, program and model alike. Conditions: numbers are int64. Contracts of absolute values in the model. Conditions: numbers are int64. -/
import Derived.Test.YtmikjgbojknlnaaIvN
import Derived.Test.YtmikjgbojknlnaaIvF
import Derived.Outline
namespace Go.Proofs.Ytmikjgbojknlnaa
open Go.ChangeShapes Go.WideShapes Go.ChangeAt Go.RowKit
set_option linter.unusedVariables false
set_option maxRecDepth 100000
set_option linter.unusedSimpArgs false
set_option maxHeartbeats 1000000

theorem sHasI_any (x : Iv) (n : Int) (w : World) : Calls Try.prog 142 #[.agg #[.int .i64 x.1, .int .i64 x.2], .int .i64 n] w fun e w' =>
    e = .returned (.bool (hasI x n)) ∧ Below w.heap.size w w' := by
  by_cases h : Bnd x
  · have B := Lib.hid (bnd_yes h)
    have E := Lib.hid (show hasI x n = decide (x.1 ≤ n ∧ n ≤ x.2) by unfold hasI; rw [Bool.eq_iff_iff]; simp [h])
    clear h
    cases hq : decide (x.1 ≤ n ∧ n ≤ x.2)
    all_goals
      have HQ := Lib.hid hq
      clear hq
      go_enter Try.func142, Try.ntmps142
      go_wp2_with fail
      refine (l04Ok_any x _).mono ?_
      rintro e w1 ⟨rfl, hb1⟩
      have hs1 : _ ≤ w1.heap.size := hb1.size
      try simp at hs1
      rw [B.out]
      have o_qa10 : Own (w1) (w.heap.size) 0 (.int .i64 x.1) := ownJ; obtain ⟨qa10, f_qa10⟩ := o_qa10; have o_qa11 : Own (w1) (w.heap.size) 1 (.int .i64 x.2) := ownJ; obtain ⟨qa11, f_qa11⟩ := o_qa11
      go_wp2_with fail
      refine (l04Has_any x n _).mono ?_
      rintro e w2 ⟨rfl, hb2⟩
      have hs2 : _ ≤ w2.heap.size := hb2.size
      try simp at hs2
      rw [HQ.out]
      go_wp2
      go_ret
      exact ⟨by rw [E.out, HQ.out]; rfl, belB⟩
  · have B := Lib.hid (bnd_no h)
    have E := Lib.hid (show hasI x n = true from decide_eq_true (.inl h))
    clear h
    go_enter Try.func142, Try.ntmps142
    go_wp2_with fail
    refine (l04Ok_any x _).mono ?_
    rintro e w1 ⟨rfl, hb1⟩
    have hs1 : _ ≤ w1.heap.size := hb1.size
    try simp at hs1
    rw [B.out]
    have o_qa10 : Own (w1) (w.heap.size) 0 (.int .i64 x.1) := ownJ; obtain ⟨qa10, f_qa10⟩ := o_qa10; have o_qa11 : Own (w1) (w.heap.size) 1 (.int .i64 x.2) := ownJ; obtain ⟨qa11, f_qa11⟩ := o_qa11
    go_wp2
    go_ret
    exact ⟨(by first | (rw [E.out]; done) | (rw [E.out]; rfl) | (simp [E.out]; done)), belB⟩
theorem WidthI_any (x : Iv) (w : World) : Calls Try.prog 186 #[.agg #[.int .i64 x.1, .int .i64 x.2]] w fun e w' =>
    e = .returned (.int .i64 (widI x)) ∧ Below w.heap.size w w' := by
  by_cases h : Bnd x
  · have B := Lib.hid (bnd_yes h)
    have E := Lib.hid (show widI x = x.2 - x.1 from if_pos h)
    obtain ⟨xa, xb, xc⟩ := h
    have g1 : -1152921504606846976 < x.2 := by omega
    have g2 : x.1 < 1152921504606846976 := by omega
    go_enter Try.func186, Try.ntmps186
    go_wp2_with fail
    refine (IsWhole_any x _).mono ?_
    rintro e w1 ⟨rfl, hb1⟩
    have hs1 : _ ≤ w1.heap.size := hb1.size
    try simp at hs1
    rw [B.out]
    have o_qa10 : Own (w1) (w.heap.size) 0 (.int .i64 x.1) := ownJ; obtain ⟨qa10, f_qa10⟩ := o_qa10; have o_qa11 : Own (w1) (w.heap.size) 1 (.int .i64 x.2) := ownJ; obtain ⟨qa11, f_qa11⟩ := o_qa11
    go_wp2
    go_ret
    exact ⟨(by first | (rw [E.out]; done) | (rw [E.out]; rfl) | (simp [E.out]; done)), belB⟩
  · have B := Lib.hid (bnd_no h)
    have E := Lib.hid (show widI x = -1 from if_neg h)
    clear h
    go_enter Try.func186, Try.ntmps186
    go_wp2_with fail
    refine (IsWhole_any x _).mono ?_
    rintro e w1 ⟨rfl, hb1⟩
    have hs1 : _ ≤ w1.heap.size := hb1.size
    try simp at hs1
    rw [B.out]
    have o_qa10 : Own (w1) (w.heap.size) 0 (.int .i64 x.1) := ownJ; obtain ⟨qa10, f_qa10⟩ := o_qa10; have o_qa11 : Own (w1) (w.heap.size) 1 (.int .i64 x.2) := ownJ; obtain ⟨qa11, f_qa11⟩ := o_qa11
    go_wp2
    go_ret
    exact ⟨(by first | (rw [E.out]; done) | (rw [E.out]; rfl) | (simp [E.out]; done)), belB⟩
theorem MidI_any (x : Iv) (w : World) : Calls Try.prog 116 #[.agg #[.int .i64 x.1, .int .i64 x.2]] w fun e w' =>
    e = .returned (.int .i64 (midI x)) ∧ Below w.heap.size w w' := by
  by_cases h : Bnd x
  · have B := Lib.hid (bnd_yes h)
    have E := Lib.hid (show midI x = (x.1 + x.2) / 2 from if_pos h)
    obtain ⟨xa, xb, xc⟩ := h
    have g1 : -1152921504606846976 < x.2 := by omega
    have g2 : x.1 < 1152921504606846976 := by omega
    go_enter Try.func116, Try.ntmps116
    go_wp2_with fail
    refine (IsWhole_any x _).mono ?_
    rintro e w1 ⟨rfl, hb1⟩
    have hs1 : _ ≤ w1.heap.size := hb1.size
    try simp at hs1
    rw [B.out]
    have o_qa10 : Own (w1) (w.heap.size) 0 (.int .i64 x.1) := ownJ; obtain ⟨qa10, f_qa10⟩ := o_qa10; have o_qa11 : Own (w1) (w.heap.size) 1 (.int .i64 x.2) := ownJ; obtain ⟨qa11, f_qa11⟩ := o_qa11
    go_wp2
    go_ret
    exact ⟨(by first | (rw [E.out]; done) | (rw [E.out]; rfl) | (simp [E.out]; done)), belB⟩
  · have B := Lib.hid (bnd_no h)
    have E := Lib.hid (show midI x = 0 from if_neg h)
    clear h
    go_enter Try.func116, Try.ntmps116
    go_wp2_with fail
    refine (IsWhole_any x _).mono ?_
    rintro e w1 ⟨rfl, hb1⟩
    have hs1 : _ ≤ w1.heap.size := hb1.size
    try simp at hs1
    rw [B.out]
    have o_qa10 : Own (w1) (w.heap.size) 0 (.int .i64 x.1) := ownJ; obtain ⟨qa10, f_qa10⟩ := o_qa10; have o_qa11 : Own (w1) (w.heap.size) 1 (.int .i64 x.2) := ownJ; obtain ⟨qa11, f_qa11⟩ := o_qa11
    go_wp2
    go_ret
    exact ⟨(by first | (rw [E.out]; done) | (rw [E.out]; rfl) | (simp [E.out]; done)), belB⟩
end Go.Proofs.Ytmikjgbojknlnaa
namespace Go.Proofs.Ytmikjgbojknlnaa
open Go.ChangeShapes Go.WideShapes Go.ChangeAt Go.RowKit
set_option linter.unusedVariables false
set_option maxRecDepth 100000
set_option linter.unusedSimpArgs false
set_option maxHeartbeats 1000000

theorem l04Ends_any (x : Iv) (h : Bnd x) (w : World) : Calls Try.prog 197 #[.agg #[.int .i64 x.1, .int .i64 x.2]] w fun e w' =>
    e = .returned (.tuple #[.int .i64 (absN x), .int .i64 (absF x)]) ∧ Below w.heap.size w w' := by
  by_cases z : x.1 ≤ 0 ∧ 0 ≤ x.2
  · have HZ := Lib.hid (show decide (x.1 ≤ 0 ∧ 0 ≤ x.2) = true from decide_eq_true z)
    have EN := Lib.hid (show absN x = 0 from if_pos z)
    have EF := Lib.hid (show absF x = max (max x.1 (-x.1)) (max x.2 (-x.2)) from rfl)
    obtain ⟨xa, xb, xc⟩ := h
    have g1 : -1152921504606846976 < x.2 := by omega
    have g2 : x.1 < 1152921504606846976 := by omega
    clear z
    go_enter Try.func197, Try.ntmps197
    go_wp2_with fail
    refine (l00Max_any x.1 (-x.1) _).mono ?_
    rintro e w0 ⟨rfl, rfl⟩
    go_wp2_with fail
    refine (l00Max_any x.2 (-x.2) _).mono ?_
    rintro e w0 ⟨rfl, rfl⟩
    go_wp2_with fail
    refine (l04Has_any x 0 _).mono ?_
    rintro e w1 ⟨rfl, hb1⟩
    have hs1 : _ ≤ w1.heap.size := hb1.size
    try simp at hs1
    rw [HZ.out]
    go_wp2_with fail
    refine (l00Max_any _ _ _).mono ?_
    rintro e w0 ⟨rfl, rfl⟩
    go_wp2
    go_ret2
    exact ⟨(by first | (rw [EN.out, EF.out]; done) | (rw [EN.out, EF.out]; rfl) | (simp [EN.out, EF.out]; done)), belB⟩
  · have HZ := Lib.hid (show decide (x.1 ≤ 0 ∧ 0 ≤ x.2) = false from decide_eq_false z)
    have EN := Lib.hid (show absN x = min (max x.1 (-x.1)) (max x.2 (-x.2)) from if_neg z)
    have EF := Lib.hid (show absF x = max (max x.1 (-x.1)) (max x.2 (-x.2)) from rfl)
    obtain ⟨xa, xb, xc⟩ := h
    have g1 : -1152921504606846976 < x.2 := by omega
    have g2 : x.1 < 1152921504606846976 := by omega
    clear z
    go_enter Try.func197, Try.ntmps197
    go_wp2_with fail
    refine (l00Max_any x.1 (-x.1) _).mono ?_
    rintro e w0 ⟨rfl, rfl⟩
    go_wp2_with fail
    refine (l00Max_any x.2 (-x.2) _).mono ?_
    rintro e w0 ⟨rfl, rfl⟩
    go_wp2_with fail
    refine (l04Has_any x 0 _).mono ?_
    rintro e w1 ⟨rfl, hb1⟩
    have hs1 : _ ≤ w1.heap.size := hb1.size
    try simp at hs1
    rw [HZ.out]
    go_wp2_with fail
    refine (l00Min_any _ _ _).mono ?_
    rintro e w0 ⟨rfl, rfl⟩
    go_wp2_with fail
    refine (l00Max_any _ _ _).mono ?_
    rintro e w0 ⟨rfl, rfl⟩
    go_wp2
    go_ret2
    exact ⟨(by first | (rw [EN.out, EF.out]; done) | (rw [EN.out, EF.out]; rfl) | (simp [EN.out, EF.out]; done)), belB⟩
end Go.Proofs.Ytmikjgbojknlnaa
