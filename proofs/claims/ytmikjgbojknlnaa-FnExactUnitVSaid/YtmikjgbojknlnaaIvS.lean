/- Contracts of absolute values, squares and roots in the model. Conditions: numbers are int64. -/
import Derived.Test.YtmikjgbojknlnaaIvZo
import Derived.Test.YtmikjgbojknlnaaFixF
import Derived.Outline
namespace Go.Proofs.Ytmikjgbojknlnaa
open Go.ChangeShapes Go.WideShapes Go.ChangeAt Go.RowKit
set_option linter.unusedVariables false
set_option maxRecDepth 100000
set_option linter.unusedSimpArgs false
set_option maxHeartbeats 1000000

theorem sAbsI_any (x : Iv) (w : World) : Calls Try.prog 165 #[.agg #[.int .i64 x.1, .int .i64 x.2]] w fun e w' =>
    e = .returned (.agg #[.int .i64 (absI x).1, .int .i64 (absI x).2]) ∧ Below w.heap.size w w' := by
  by_cases h1 : Bnd x
  · have B1 := Lib.hid (bnd_yes h1)
    have E := Lib.hid (show absI x = can (absN x, absF x) from (absI_yes h1).trans (can_yes (abs_ends h1).1).symm)
    have EN := Lib.hid (fun w => l04Ends_any x h1 w)
    have LM := Lib.hid (fun w => l04Make_any (absN x) (absF x) w)
    clear h1
    go_enter Try.func165, Try.ntmps165
    go_wp2_with fail
    refine (l04Ok_any x _).mono ?_
    rintro e w1 ⟨rfl, hb1⟩
    have hs1 : _ ≤ w1.heap.size := hb1.size
    try simp at hs1
    rw [B1.out]
    have o_qa10 : Own (w1) (w.heap.size) 0 (.int .i64 x.1) := ownJ; obtain ⟨qa10, f_qa10⟩ := o_qa10; have o_qa11 : Own (w1) (w.heap.size) 1 (.int .i64 x.2) := ownJ; obtain ⟨qa11, f_qa11⟩ := o_qa11
    have o_qr10 : Own (w1) (w.heap.size + 1) 0 (.int .i64 0) := ownJ; obtain ⟨qr10, f_qr10⟩ := o_qr10; have o_qr11 : Own (w1) (w.heap.size + 1) 1 (.int .i64 0) := ownJ; obtain ⟨qr11, f_qr11⟩ := o_qr11
    go_wp2_with fail
    refine (EN.out _).mono ?_
    rintro e w2 ⟨rfl, hb2⟩
    have hs2 : _ ≤ w2.heap.size := hb2.size
    try simp at hs2
    have o_qa20 : Own (w2) (w.heap.size) 0 (.int .i64 x.1) := ownJ; obtain ⟨qa20, f_qa20⟩ := o_qa20; have o_qa21 : Own (w2) (w.heap.size) 1 (.int .i64 x.2) := ownJ; obtain ⟨qa21, f_qa21⟩ := o_qa21
    have o_qr20 : Own (w2) (w.heap.size + 1) 0 (.int .i64 0) := ownJ; obtain ⟨qr20, f_qr20⟩ := o_qr20; have o_qr21 : Own (w2) (w.heap.size + 1) 1 (.int .i64 0) := ownJ; obtain ⟨qr21, f_qr21⟩ := o_qr21
    go_wp2_with fail
    refine (LM.out _).mono ?_
    rintro e w3 ⟨rfl, hb3⟩
    have hs3 : _ ≤ w3.heap.size := hb3.size
    try simp at hs3
    have o_qr30 : Own (w3) (w.heap.size + 1) 0 (.int .i64 0) := ownJ; obtain ⟨qr30, f_qr30⟩ := o_qr30; have o_qr31 : Own (w3) (w.heap.size + 1) 1 (.int .i64 0) := ownJ; obtain ⟨qr31, f_qr31⟩ := o_qr31
    go_wp2
    exact bodyPost_ret (v := .agg #[.int .i64 (can (absN x, absF x)).1, .int .i64 (can (absN x, absF x)).2]) (by simp [results, Try.results165, go_sem, qr30, qr31]) rfl ⟨(by first | (rw [E.out]; done) | (rw [E.out]; rfl) | (simp [E.out]; done)), belB⟩
  · have B1 := Lib.hid (bnd_no h1)
    have E := Lib.hid (show absI x = whl from absI_no h1)
    clear h1
    go_enter Try.func165, Try.ntmps165
    go_wp2_with fail
    refine (l04Ok_any x _).mono ?_
    rintro e w1 ⟨rfl, hb1⟩
    have hs1 : _ ≤ w1.heap.size := hb1.size
    try simp at hs1
    rw [B1.out]
    have o_qr10 : Own (w1) (w.heap.size + 1) 0 (.int .i64 0) := ownJ; obtain ⟨qr10, f_qr10⟩ := o_qr10; have o_qr11 : Own (w1) (w.heap.size + 1) 1 (.int .i64 0) := ownJ; obtain ⟨qr11, f_qr11⟩ := o_qr11
    go_wp2_with fail
    refine (l04Whole_any _).mono ?_
    rintro e w2 ⟨rfl, hb2⟩
    have hs2 : _ ≤ w2.heap.size := hb2.size
    try simp at hs2
    have o_qr20 : Own (w2) (w.heap.size + 1) 0 (.int .i64 0) := ownJ; obtain ⟨qr20, f_qr20⟩ := o_qr20; have o_qr21 : Own (w2) (w.heap.size + 1) 1 (.int .i64 0) := ownJ; obtain ⟨qr21, f_qr21⟩ := o_qr21
    go_wp2
    exact bodyPost_ret (v := .agg #[.int .i64 (-1152921504606846976), .int .i64 1152921504606846976]) (by simp [results, Try.results165, go_sem, qr20, qr21]) rfl ⟨(by first | (rw [E.out]; done) | (rw [E.out]; rfl) | (simp [E.out]; done)), belB⟩
theorem sSqrtI_any (x : Iv) (w : World) : Calls Try.prog 87 #[.agg #[.int .i64 x.1, .int .i64 x.2]] w fun e w' =>
    e = .returned (.agg #[.int .i64 (sqrtI x).1, .int .i64 (sqrtI x).2]) ∧ Below w.heap.size w w' := by
  by_cases h : Bnd x
  · have B := Lib.hid (bnd_yes h)
    by_cases s : x.1 < 0
    · have E := Lib.hid (sqrtI_no (x := x) (.inr s))
      clear h
      go_enter Try.func87, Try.ntmps87
      go_wp2_with fail
      refine (l04Ok_any x _).mono ?_
      rintro e w1 ⟨rfl, hb1⟩
      have hs1 : _ ≤ w1.heap.size := hb1.size
      try simp at hs1
      rw [B.out]
      have o_qa10 : Own (w1) (w.heap.size) 0 (.int .i64 x.1) := ownJ; obtain ⟨qa10, f_qa10⟩ := o_qa10; have o_qa11 : Own (w1) (w.heap.size) 1 (.int .i64 x.2) := ownJ; obtain ⟨qa11, f_qa11⟩ := o_qa11
      have o_qr10 : Own (w1) (w.heap.size + 1) 0 (.int .i64 0) := ownJ; obtain ⟨qr10, f_qr10⟩ := o_qr10; have o_qr11 : Own (w1) (w.heap.size + 1) 1 (.int .i64 0) := ownJ; obtain ⟨qr11, f_qr11⟩ := o_qr11
      go_wp2_with fail
      refine (l04Whole_any _).mono ?_
      rintro e w2 ⟨rfl, hb2⟩
      have hs2 : _ ≤ w2.heap.size := hb2.size
      try simp at hs2
      have o_qr20 : Own (w2) (w.heap.size + 1) 0 (.int .i64 0) := ownJ; obtain ⟨qr20, f_qr20⟩ := o_qr20; have o_qr21 : Own (w2) (w.heap.size + 1) 1 (.int .i64 0) := ownJ; obtain ⟨qr21, f_qr21⟩ := o_qr21
      go_wp2
      exact bodyPost_ret (v := .agg #[.int .i64 (-1152921504606846976), .int .i64 1152921504606846976]) (by simp [results, Try.results87, go_sem, qr20, qr21]) rfl ⟨(by first | (rw [E.out]; done) | (rw [E.out]; rfl) | (simp [E.out]; done)), belB⟩
    · have E := Lib.hid (sqrtI_yes h (by omega))
      have hb := h
      unfold Bnd at hb
      have D := Lib.hid (fun w => l03SqrtDown_any x.1 (by unfold In64; omega) w)
      have U := Lib.hid (fun w => l03SqrtUp_any x.2 (by unfold In64; omega) w)
      have D1 := Lib.hid (res_yes (okR_yes (a := x.1) (by omega) (by omega)) (rtD_fix (a := x.1) (by omega)))
      have U1 := Lib.hid (res_yes (okR_yes (a := x.2) (by omega) (by omega)) (rtU_fix (a := x.2) (by omega)))
      have LM := Lib.hid (fun w => l04Make_any (rtD x.1) (rtU x.2) w)
      clear h hb
      go_enter Try.func87, Try.ntmps87
      go_wp2_with fail
      refine (l04Ok_any x _).mono ?_
      rintro e w1 ⟨rfl, hb1⟩
      have hs1 : _ ≤ w1.heap.size := hb1.size
      try simp at hs1
      rw [B.out]
      have o_qa10 : Own (w1) (w.heap.size) 0 (.int .i64 x.1) := ownJ; obtain ⟨qa10, f_qa10⟩ := o_qa10; have o_qa11 : Own (w1) (w.heap.size) 1 (.int .i64 x.2) := ownJ; obtain ⟨qa11, f_qa11⟩ := o_qa11
      have o_qr10 : Own (w1) (w.heap.size + 1) 0 (.int .i64 0) := ownJ; obtain ⟨qr10, f_qr10⟩ := o_qr10; have o_qr11 : Own (w1) (w.heap.size + 1) 1 (.int .i64 0) := ownJ; obtain ⟨qr11, f_qr11⟩ := o_qr11
      go_wp2_with fail
      refine (D.out _).mono ?_
      rintro e w2 ⟨rfl, hb2⟩
      have hs2 : _ ≤ w2.heap.size := hb2.size
      try simp at hs2
      rw [D1.out.1, D1.out.2]
      have o_qa20 : Own (w2) (w.heap.size) 0 (.int .i64 x.1) := ownJ; obtain ⟨qa20, f_qa20⟩ := o_qa20; have o_qa21 : Own (w2) (w.heap.size) 1 (.int .i64 x.2) := ownJ; obtain ⟨qa21, f_qa21⟩ := o_qa21
      have o_qr20 : Own (w2) (w.heap.size + 1) 0 (.int .i64 0) := ownJ; obtain ⟨qr20, f_qr20⟩ := o_qr20; have o_qr21 : Own (w2) (w.heap.size + 1) 1 (.int .i64 0) := ownJ; obtain ⟨qr21, f_qr21⟩ := o_qr21
      go_wp2_with fail
      refine (U.out _).mono ?_
      rintro e w3 ⟨rfl, hb3⟩
      have hs3 : _ ≤ w3.heap.size := hb3.size
      try simp at hs3
      rw [U1.out.1, U1.out.2]
      have o_qa30 : Own (w3) (w.heap.size) 0 (.int .i64 x.1) := ownJ; obtain ⟨qa30, f_qa30⟩ := o_qa30; have o_qa31 : Own (w3) (w.heap.size) 1 (.int .i64 x.2) := ownJ; obtain ⟨qa31, f_qa31⟩ := o_qa31
      have o_qr30 : Own (w3) (w.heap.size + 1) 0 (.int .i64 0) := ownJ; obtain ⟨qr30, f_qr30⟩ := o_qr30; have o_qr31 : Own (w3) (w.heap.size + 1) 1 (.int .i64 0) := ownJ; obtain ⟨qr31, f_qr31⟩ := o_qr31
      go_wp2_with fail
      refine (LM.out _).mono ?_
      rintro e w4 ⟨rfl, hb4⟩
      have hs4 : _ ≤ w4.heap.size := hb4.size
      try simp at hs4
      have o_qr40 : Own (w4) (w.heap.size + 1) 0 (.int .i64 0) := ownJ; obtain ⟨qr40, f_qr40⟩ := o_qr40; have o_qr41 : Own (w4) (w.heap.size + 1) 1 (.int .i64 0) := ownJ; obtain ⟨qr41, f_qr41⟩ := o_qr41
      go_wp2
      exact bodyPost_ret (v := .agg #[.int .i64 (can (rtD x.1, rtU x.2)).1, .int .i64 (can (rtD x.1, rtU x.2)).2]) (by simp [results, Try.results87, go_sem, qr40, qr41]) rfl ⟨(by first | (rw [E.out]; done) | (rw [E.out]; rfl) | (simp [E.out]; done)), belB⟩
  · have B := Lib.hid (bnd_no h)
    have E := Lib.hid (sqrtI_no (x := x) (.inl h))
    clear h
    go_enter Try.func87, Try.ntmps87
    go_wp2_with fail
    refine (l04Ok_any x _).mono ?_
    rintro e w1 ⟨rfl, hb1⟩
    have hs1 : _ ≤ w1.heap.size := hb1.size
    try simp at hs1
    rw [B.out]
    have o_qa10 : Own (w1) (w.heap.size) 0 (.int .i64 x.1) := ownJ; obtain ⟨qa10, f_qa10⟩ := o_qa10; have o_qa11 : Own (w1) (w.heap.size) 1 (.int .i64 x.2) := ownJ; obtain ⟨qa11, f_qa11⟩ := o_qa11
    have o_qr10 : Own (w1) (w.heap.size + 1) 0 (.int .i64 0) := ownJ; obtain ⟨qr10, f_qr10⟩ := o_qr10; have o_qr11 : Own (w1) (w.heap.size + 1) 1 (.int .i64 0) := ownJ; obtain ⟨qr11, f_qr11⟩ := o_qr11
    go_wp2_with fail
    refine (l04Whole_any _).mono ?_
    rintro e w2 ⟨rfl, hb2⟩
    have hs2 : _ ≤ w2.heap.size := hb2.size
    try simp at hs2
    have o_qr20 : Own (w2) (w.heap.size + 1) 0 (.int .i64 0) := ownJ; obtain ⟨qr20, f_qr20⟩ := o_qr20; have o_qr21 : Own (w2) (w.heap.size + 1) 1 (.int .i64 0) := ownJ; obtain ⟨qr21, f_qr21⟩ := o_qr21
    go_wp2
    exact bodyPost_ret (v := .agg #[.int .i64 (-1152921504606846976), .int .i64 1152921504606846976]) (by simp [results, Try.results87, go_sem, qr20, qr21]) rfl ⟨(by first | (rw [E.out]; done) | (rw [E.out]; rfl) | (simp [E.out]; done)), belB⟩
end Go.Proofs.Ytmikjgbojknlnaa
