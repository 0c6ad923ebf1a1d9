/- Contracts of sums, differences and the like in the model. Conditions: numbers are int64. -/
import Derived.Test.YtmikjgbojknlnaaGreatDoorIvA
import Derived.Test.YtmikjgbojknlnaaGreatDoorMinMax
import Derived.Test.YtmikjgbojknlnaaGreatDoorWideZe
import Derived.Deep.RegionHeld3
import Derived.Outline
namespace Go.Proofs.YtmikjgbojknlnaaGreatDoor
open Go.ChangeShapes Go.WideShapes Go.ChangeAt Go.RowKit
set_option linter.unusedVariables false
set_option maxRecDepth 100000
set_option linter.unusedSimpArgs false
set_option maxHeartbeats 1000000

theorem l00Min_any (a b : Int) (w : World) : Calls Tryz.prog 121 #[.int .i64 a, .int .i64 b] w fun e w' =>
    e = .returned (.int .i64 (min a b)) ∧ w = w' := by
  by_cases h : a < b
  · have E := Lib.hid (show min a b = a by omega)
    go_enter Tryz.func121, Tryz.ntmps121
    go_wp2
    go_ret
    exact ⟨(by first | (rw [E.out]; done) | (rw [E.out]; rfl) | (simp [E.out]; done)), rfl⟩
  · have E := Lib.hid (show min a b = b by omega)
    go_enter Tryz.func121, Tryz.ntmps121
    go_wp2
    go_ret
    exact ⟨(by first | (rw [E.out]; done) | (rw [E.out]; rfl) | (simp [E.out]; done)), rfl⟩
theorem l00Max_any (a b : Int) (w : World) : Calls Tryz.prog 122 #[.int .i64 a, .int .i64 b] w fun e w' =>
    e = .returned (.int .i64 (max a b)) ∧ w = w' := by
  by_cases h : b < a
  · have E := Lib.hid (show max a b = a by omega)
    go_enter Tryz.func122, Tryz.ntmps122
    go_wp2
    go_ret
    exact ⟨(by first | (rw [E.out]; done) | (rw [E.out]; rfl) | (simp [E.out]; done)), rfl⟩
  · have E := Lib.hid (show max a b = b by omega)
    go_enter Tryz.func122, Tryz.ntmps122
    go_wp2
    go_ret
    exact ⟨(by first | (rw [E.out]; done) | (rw [E.out]; rfl) | (simp [E.out]; done)), rfl⟩
theorem l04Has_any (x : Iv) (n : Int) (w : World) : Calls Tryz.prog 108 #[.agg #[.int .i64 x.1, .int .i64 x.2], .int .i64 n] w fun e w' =>
    e = .returned (.bool (decide (x.1 ≤ n ∧ n ≤ x.2))) ∧ Below w.heap.size w w' := by
  by_cases h : x.1 ≤ n ∧ n ≤ x.2
  · have E := Lib.hid (show decide (x.1 ≤ n ∧ n ≤ x.2) = true from decide_eq_true h)
    have C := Lib.hid (fun w => l00In_yes n x.1 x.2 h.1 h.2 w)
    clear h
    go_enter Tryz.func108, Tryz.ntmps108
    go_wp2_with fail
    refine (C.out _).mono ?_
    rintro e w1 ⟨rfl, rfl⟩
    go_wp2
    go_ret
    exact ⟨(by first | (rw [E.out]; done) | (rw [E.out]; rfl) | (simp [E.out]; done)), belB⟩
  · have E := Lib.hid (show decide (x.1 ≤ n ∧ n ≤ x.2) = false from decide_eq_false h)
    have C := Lib.hid (fun w => l00In_no n x.1 x.2 (by omega) w)
    clear h
    go_enter Tryz.func108, Tryz.ntmps108
    go_wp2_with fail
    refine (C.out _).mono ?_
    rintro e w1 ⟨rfl, rfl⟩
    go_wp2
    go_ret
    exact ⟨(by first | (rw [E.out]; done) | (rw [E.out]; rfl) | (simp [E.out]; done)), belB⟩
theorem sAddI_any (x y : Iv) (w : World) : Calls Tryz.prog 43 #[.agg #[.int .i64 x.1, .int .i64 x.2], .agg #[.int .i64 y.1, .int .i64 y.2]] w fun e w' =>
    e = .returned (.agg #[.int .i64 (addI x y).1, .int .i64 (addI x y).2]) ∧ Below w.heap.size w w' := by
  by_cases h1 : Bnd x
  · have B1 := Lib.hid (bnd_yes h1)
    by_cases h2 : Bnd y
    · have B2 := Lib.hid (bnd_yes h2)
      have E := Lib.hid (show addI x y = can (x.1 + y.1, x.2 + y.2) from kn_yes (by rw [bnd_yes h1, bnd_yes h2]; rfl))
      have LM := Lib.hid (fun w => l04Make_any (x.1 + y.1) (x.2 + y.2) w)
      obtain ⟨xa, xb, xc⟩ := h1
      obtain ⟨ya, yb, yc⟩ := h2
      have g1 : -1152921504606846976 < x.2 := by omega
      have g2 : x.1 < 1152921504606846976 := by omega
      have g3 : -1152921504606846976 < y.2 := by omega
      have g4 : y.1 < 1152921504606846976 := by omega
      go_enter Tryz.func43, Tryz.ntmps43
      go_wp2_with fail
      refine (l04Ok_any x _).mono ?_
      rintro e w1 ⟨rfl, hb1⟩
      have hs1 : _ ≤ w1.heap.size := hb1.size
      try simp at hs1
      rw [B1.out]
      have o_qa10 : Own (w1) (w.heap.size) 0 (.int .i64 x.1) := ownJ; obtain ⟨qa10, f_qa10⟩ := o_qa10; have o_qa11 : Own (w1) (w.heap.size) 1 (.int .i64 x.2) := ownJ; obtain ⟨qa11, f_qa11⟩ := o_qa11
      have o_qb10 : Own (w1) (w.heap.size + 1) 0 (.int .i64 y.1) := ownJ; obtain ⟨qb10, f_qb10⟩ := o_qb10; have o_qb11 : Own (w1) (w.heap.size + 1) 1 (.int .i64 y.2) := ownJ; obtain ⟨qb11, f_qb11⟩ := o_qb11
      have o_qr10 : Own (w1) (w.heap.size + 1 + 1) 0 (.int .i64 0) := ownJ; obtain ⟨qr10, f_qr10⟩ := o_qr10; have o_qr11 : Own (w1) (w.heap.size + 1 + 1) 1 (.int .i64 0) := ownJ; obtain ⟨qr11, f_qr11⟩ := o_qr11
      go_wp2_with fail
      refine (l04Ok_any y _).mono ?_
      rintro e w2 ⟨rfl, hb2⟩
      have hs2 : _ ≤ w2.heap.size := hb2.size
      try simp at hs2
      rw [B2.out]
      have o_qa20 : Own (w2) (w.heap.size) 0 (.int .i64 x.1) := ownJ; obtain ⟨qa20, f_qa20⟩ := o_qa20; have o_qa21 : Own (w2) (w.heap.size) 1 (.int .i64 x.2) := ownJ; obtain ⟨qa21, f_qa21⟩ := o_qa21
      have o_qb20 : Own (w2) (w.heap.size + 1) 0 (.int .i64 y.1) := ownJ; obtain ⟨qb20, f_qb20⟩ := o_qb20; have o_qb21 : Own (w2) (w.heap.size + 1) 1 (.int .i64 y.2) := ownJ; obtain ⟨qb21, f_qb21⟩ := o_qb21
      have o_qr20 : Own (w2) (w.heap.size + 1 + 1) 0 (.int .i64 0) := ownJ; obtain ⟨qr20, f_qr20⟩ := o_qr20; have o_qr21 : Own (w2) (w.heap.size + 1 + 1) 1 (.int .i64 0) := ownJ; obtain ⟨qr21, f_qr21⟩ := o_qr21
      go_wp2_with fail
      refine (LM.out _).mono ?_
      rintro e w3 ⟨rfl, hb3⟩
      have hs3 : _ ≤ w3.heap.size := hb3.size
      try simp at hs3
      have o_qr30 : Own (w3) (w.heap.size + 1 + 1) 0 (.int .i64 0) := ownJ; obtain ⟨qr30, f_qr30⟩ := o_qr30; have o_qr31 : Own (w3) (w.heap.size + 1 + 1) 1 (.int .i64 0) := ownJ; obtain ⟨qr31, f_qr31⟩ := o_qr31
      go_wp2
      exact bodyPost_ret (v := .agg #[.int .i64 (can (x.1 + y.1, x.2 + y.2)).1, .int .i64 (can (x.1 + y.1, x.2 + y.2)).2]) (by simp [results, Tryz.results43, go_sem, qr30, qr31]) rfl ⟨(by first | (rw [E.out]; done) | (rw [E.out]; rfl) | (simp [E.out]; done)), belB⟩
    · have B2 := Lib.hid (bnd_no h2)
      have E := Lib.hid (show addI x y = whl from kn_no (by rw [bnd_no h2]; simp))
      clear h1 h2
      go_enter Tryz.func43, Tryz.ntmps43
      go_wp2_with fail
      refine (l04Ok_any x _).mono ?_
      rintro e w1 ⟨rfl, hb1⟩
      have hs1 : _ ≤ w1.heap.size := hb1.size
      try simp at hs1
      rw [B1.out]
      have o_qa10 : Own (w1) (w.heap.size) 0 (.int .i64 x.1) := ownJ; obtain ⟨qa10, f_qa10⟩ := o_qa10; have o_qa11 : Own (w1) (w.heap.size) 1 (.int .i64 x.2) := ownJ; obtain ⟨qa11, f_qa11⟩ := o_qa11
      have o_qb10 : Own (w1) (w.heap.size + 1) 0 (.int .i64 y.1) := ownJ; obtain ⟨qb10, f_qb10⟩ := o_qb10; have o_qb11 : Own (w1) (w.heap.size + 1) 1 (.int .i64 y.2) := ownJ; obtain ⟨qb11, f_qb11⟩ := o_qb11
      have o_qr10 : Own (w1) (w.heap.size + 1 + 1) 0 (.int .i64 0) := ownJ; obtain ⟨qr10, f_qr10⟩ := o_qr10; have o_qr11 : Own (w1) (w.heap.size + 1 + 1) 1 (.int .i64 0) := ownJ; obtain ⟨qr11, f_qr11⟩ := o_qr11
      go_wp2_with fail
      refine (l04Ok_any y _).mono ?_
      rintro e w2 ⟨rfl, hb2⟩
      have hs2 : _ ≤ w2.heap.size := hb2.size
      try simp at hs2
      rw [B2.out]
      have o_qr20 : Own (w2) (w.heap.size + 1 + 1) 0 (.int .i64 0) := ownJ; obtain ⟨qr20, f_qr20⟩ := o_qr20; have o_qr21 : Own (w2) (w.heap.size + 1 + 1) 1 (.int .i64 0) := ownJ; obtain ⟨qr21, f_qr21⟩ := o_qr21
      go_wp2_with fail
      refine (l04Whole_any _).mono ?_
      rintro e w3 ⟨rfl, hb3⟩
      have hs3 : _ ≤ w3.heap.size := hb3.size
      try simp at hs3
      have o_qr30 : Own (w3) (w.heap.size + 1 + 1) 0 (.int .i64 0) := ownJ; obtain ⟨qr30, f_qr30⟩ := o_qr30; have o_qr31 : Own (w3) (w.heap.size + 1 + 1) 1 (.int .i64 0) := ownJ; obtain ⟨qr31, f_qr31⟩ := o_qr31
      go_wp2
      exact bodyPost_ret (v := .agg #[.int .i64 (-1152921504606846976), .int .i64 1152921504606846976]) (by simp [results, Tryz.results43, go_sem, qr30, qr31]) rfl ⟨(by first | (rw [E.out]; done) | (rw [E.out]; rfl) | (simp [E.out]; done)), belB⟩
  · have B1 := Lib.hid (bnd_no h1)
    have E := Lib.hid (show addI x y = whl from kn_no (by simp [bnd_no h1]))
    clear h1
    go_enter Tryz.func43, Tryz.ntmps43
    go_wp2_with fail
    refine (l04Ok_any x _).mono ?_
    rintro e w1 ⟨rfl, hb1⟩
    have hs1 : _ ≤ w1.heap.size := hb1.size
    try simp at hs1
    rw [B1.out]
    have o_qr10 : Own (w1) (w.heap.size + 1 + 1) 0 (.int .i64 0) := ownJ; obtain ⟨qr10, f_qr10⟩ := o_qr10; have o_qr11 : Own (w1) (w.heap.size + 1 + 1) 1 (.int .i64 0) := ownJ; obtain ⟨qr11, f_qr11⟩ := o_qr11
    go_wp2_with fail
    refine (l04Whole_any _).mono ?_
    rintro e w2 ⟨rfl, hb2⟩
    have hs2 : _ ≤ w2.heap.size := hb2.size
    try simp at hs2
    have o_qr20 : Own (w2) (w.heap.size + 1 + 1) 0 (.int .i64 0) := ownJ; obtain ⟨qr20, f_qr20⟩ := o_qr20; have o_qr21 : Own (w2) (w.heap.size + 1 + 1) 1 (.int .i64 0) := ownJ; obtain ⟨qr21, f_qr21⟩ := o_qr21
    go_wp2
    exact bodyPost_ret (v := .agg #[.int .i64 (-1152921504606846976), .int .i64 1152921504606846976]) (by simp [results, Tryz.results43, go_sem, qr20, qr21]) rfl ⟨(by first | (rw [E.out]; done) | (rw [E.out]; rfl) | (simp [E.out]; done)), belB⟩
theorem sSubI_any (x y : Iv) (w : World) : Calls Tryz.prog 82 #[.agg #[.int .i64 x.1, .int .i64 x.2], .agg #[.int .i64 y.1, .int .i64 y.2]] w fun e w' =>
    e = .returned (.agg #[.int .i64 (subI x y).1, .int .i64 (subI x y).2]) ∧ Below w.heap.size w w' := by
  by_cases h1 : Bnd x
  · have B1 := Lib.hid (bnd_yes h1)
    by_cases h2 : Bnd y
    · have B2 := Lib.hid (bnd_yes h2)
      have E := Lib.hid (show subI x y = can (x.1 - y.2, x.2 - y.1) from kn_yes (by rw [bnd_yes h1, bnd_yes h2]; rfl))
      have LM := Lib.hid (fun w => l04Make_any (x.1 - y.2) (x.2 - y.1) w)
      obtain ⟨xa, xb, xc⟩ := h1
      obtain ⟨ya, yb, yc⟩ := h2
      have g1 : -1152921504606846976 < x.2 := by omega
      have g2 : x.1 < 1152921504606846976 := by omega
      have g3 : -1152921504606846976 < y.2 := by omega
      have g4 : y.1 < 1152921504606846976 := by omega
      go_enter Tryz.func82, Tryz.ntmps82
      go_wp2_with fail
      refine (l04Ok_any x _).mono ?_
      rintro e w1 ⟨rfl, hb1⟩
      have hs1 : _ ≤ w1.heap.size := hb1.size
      try simp at hs1
      rw [B1.out]
      have o_qa10 : Own (w1) (w.heap.size) 0 (.int .i64 x.1) := ownJ; obtain ⟨qa10, f_qa10⟩ := o_qa10; have o_qa11 : Own (w1) (w.heap.size) 1 (.int .i64 x.2) := ownJ; obtain ⟨qa11, f_qa11⟩ := o_qa11
      have o_qb10 : Own (w1) (w.heap.size + 1) 0 (.int .i64 y.1) := ownJ; obtain ⟨qb10, f_qb10⟩ := o_qb10; have o_qb11 : Own (w1) (w.heap.size + 1) 1 (.int .i64 y.2) := ownJ; obtain ⟨qb11, f_qb11⟩ := o_qb11
      have o_qr10 : Own (w1) (w.heap.size + 1 + 1) 0 (.int .i64 0) := ownJ; obtain ⟨qr10, f_qr10⟩ := o_qr10; have o_qr11 : Own (w1) (w.heap.size + 1 + 1) 1 (.int .i64 0) := ownJ; obtain ⟨qr11, f_qr11⟩ := o_qr11
      go_wp2_with fail
      refine (l04Ok_any y _).mono ?_
      rintro e w2 ⟨rfl, hb2⟩
      have hs2 : _ ≤ w2.heap.size := hb2.size
      try simp at hs2
      rw [B2.out]
      have o_qa20 : Own (w2) (w.heap.size) 0 (.int .i64 x.1) := ownJ; obtain ⟨qa20, f_qa20⟩ := o_qa20; have o_qa21 : Own (w2) (w.heap.size) 1 (.int .i64 x.2) := ownJ; obtain ⟨qa21, f_qa21⟩ := o_qa21
      have o_qb20 : Own (w2) (w.heap.size + 1) 0 (.int .i64 y.1) := ownJ; obtain ⟨qb20, f_qb20⟩ := o_qb20; have o_qb21 : Own (w2) (w.heap.size + 1) 1 (.int .i64 y.2) := ownJ; obtain ⟨qb21, f_qb21⟩ := o_qb21
      have o_qr20 : Own (w2) (w.heap.size + 1 + 1) 0 (.int .i64 0) := ownJ; obtain ⟨qr20, f_qr20⟩ := o_qr20; have o_qr21 : Own (w2) (w.heap.size + 1 + 1) 1 (.int .i64 0) := ownJ; obtain ⟨qr21, f_qr21⟩ := o_qr21
      go_wp2_with fail
      refine (LM.out _).mono ?_
      rintro e w3 ⟨rfl, hb3⟩
      have hs3 : _ ≤ w3.heap.size := hb3.size
      try simp at hs3
      have o_qr30 : Own (w3) (w.heap.size + 1 + 1) 0 (.int .i64 0) := ownJ; obtain ⟨qr30, f_qr30⟩ := o_qr30; have o_qr31 : Own (w3) (w.heap.size + 1 + 1) 1 (.int .i64 0) := ownJ; obtain ⟨qr31, f_qr31⟩ := o_qr31
      go_wp2
      exact bodyPost_ret (v := .agg #[.int .i64 (can (x.1 - y.2, x.2 - y.1)).1, .int .i64 (can (x.1 - y.2, x.2 - y.1)).2]) (by simp [results, Tryz.results82, go_sem, qr30, qr31]) rfl ⟨(by first | (rw [E.out]; done) | (rw [E.out]; rfl) | (simp [E.out]; done)), belB⟩
    · have B2 := Lib.hid (bnd_no h2)
      have E := Lib.hid (show subI x y = whl from kn_no (by rw [bnd_no h2]; simp))
      clear h1 h2
      go_enter Tryz.func82, Tryz.ntmps82
      go_wp2_with fail
      refine (l04Ok_any x _).mono ?_
      rintro e w1 ⟨rfl, hb1⟩
      have hs1 : _ ≤ w1.heap.size := hb1.size
      try simp at hs1
      rw [B1.out]
      have o_qa10 : Own (w1) (w.heap.size) 0 (.int .i64 x.1) := ownJ; obtain ⟨qa10, f_qa10⟩ := o_qa10; have o_qa11 : Own (w1) (w.heap.size) 1 (.int .i64 x.2) := ownJ; obtain ⟨qa11, f_qa11⟩ := o_qa11
      have o_qb10 : Own (w1) (w.heap.size + 1) 0 (.int .i64 y.1) := ownJ; obtain ⟨qb10, f_qb10⟩ := o_qb10; have o_qb11 : Own (w1) (w.heap.size + 1) 1 (.int .i64 y.2) := ownJ; obtain ⟨qb11, f_qb11⟩ := o_qb11
      have o_qr10 : Own (w1) (w.heap.size + 1 + 1) 0 (.int .i64 0) := ownJ; obtain ⟨qr10, f_qr10⟩ := o_qr10; have o_qr11 : Own (w1) (w.heap.size + 1 + 1) 1 (.int .i64 0) := ownJ; obtain ⟨qr11, f_qr11⟩ := o_qr11
      go_wp2_with fail
      refine (l04Ok_any y _).mono ?_
      rintro e w2 ⟨rfl, hb2⟩
      have hs2 : _ ≤ w2.heap.size := hb2.size
      try simp at hs2
      rw [B2.out]
      have o_qr20 : Own (w2) (w.heap.size + 1 + 1) 0 (.int .i64 0) := ownJ; obtain ⟨qr20, f_qr20⟩ := o_qr20; have o_qr21 : Own (w2) (w.heap.size + 1 + 1) 1 (.int .i64 0) := ownJ; obtain ⟨qr21, f_qr21⟩ := o_qr21
      go_wp2_with fail
      refine (l04Whole_any _).mono ?_
      rintro e w3 ⟨rfl, hb3⟩
      have hs3 : _ ≤ w3.heap.size := hb3.size
      try simp at hs3
      have o_qr30 : Own (w3) (w.heap.size + 1 + 1) 0 (.int .i64 0) := ownJ; obtain ⟨qr30, f_qr30⟩ := o_qr30; have o_qr31 : Own (w3) (w.heap.size + 1 + 1) 1 (.int .i64 0) := ownJ; obtain ⟨qr31, f_qr31⟩ := o_qr31
      go_wp2
      exact bodyPost_ret (v := .agg #[.int .i64 (-1152921504606846976), .int .i64 1152921504606846976]) (by simp [results, Tryz.results82, go_sem, qr30, qr31]) rfl ⟨(by first | (rw [E.out]; done) | (rw [E.out]; rfl) | (simp [E.out]; done)), belB⟩
  · have B1 := Lib.hid (bnd_no h1)
    have E := Lib.hid (show subI x y = whl from kn_no (by simp [bnd_no h1]))
    clear h1
    go_enter Tryz.func82, Tryz.ntmps82
    go_wp2_with fail
    refine (l04Ok_any x _).mono ?_
    rintro e w1 ⟨rfl, hb1⟩
    have hs1 : _ ≤ w1.heap.size := hb1.size
    try simp at hs1
    rw [B1.out]
    have o_qr10 : Own (w1) (w.heap.size + 1 + 1) 0 (.int .i64 0) := ownJ; obtain ⟨qr10, f_qr10⟩ := o_qr10; have o_qr11 : Own (w1) (w.heap.size + 1 + 1) 1 (.int .i64 0) := ownJ; obtain ⟨qr11, f_qr11⟩ := o_qr11
    go_wp2_with fail
    refine (l04Whole_any _).mono ?_
    rintro e w2 ⟨rfl, hb2⟩
    have hs2 : _ ≤ w2.heap.size := hb2.size
    try simp at hs2
    have o_qr20 : Own (w2) (w.heap.size + 1 + 1) 0 (.int .i64 0) := ownJ; obtain ⟨qr20, f_qr20⟩ := o_qr20; have o_qr21 : Own (w2) (w.heap.size + 1 + 1) 1 (.int .i64 0) := ownJ; obtain ⟨qr21, f_qr21⟩ := o_qr21
    go_wp2
    exact bodyPost_ret (v := .agg #[.int .i64 (-1152921504606846976), .int .i64 1152921504606846976]) (by simp [results, Tryz.results82, go_sem, qr20, qr21]) rfl ⟨(by first | (rw [E.out]; done) | (rw [E.out]; rfl) | (simp [E.out]; done)), belB⟩
theorem sNegI_any (x : Iv) (w : World) : Calls Tryz.prog 50 #[.agg #[.int .i64 x.1, .int .i64 x.2]] w fun e w' =>
    e = .returned (.agg #[.int .i64 (negI x).1, .int .i64 (negI x).2]) ∧ Below w.heap.size w w' := by
  by_cases h1 : Bnd x
  · have B1 := Lib.hid (bnd_yes h1)
    have E := Lib.hid (show negI x = can (-x.2, -x.1) from kn_yes (bnd_yes h1))
    have LM := Lib.hid (fun w => l04Make_any (-x.2) (-x.1) w)
    obtain ⟨xa, xb, xc⟩ := h1
    have g1 : -1152921504606846976 < x.2 := by omega
    have g2 : x.1 < 1152921504606846976 := by omega
    go_enter Tryz.func50, Tryz.ntmps50
    go_wp2_with fail
    refine (l04Ok_any x _).mono ?_
    rintro e w1 ⟨rfl, hb1⟩
    have hs1 : _ ≤ w1.heap.size := hb1.size
    try simp at hs1
    rw [B1.out]
    have o_qa10 : Own (w1) (w.heap.size) 0 (.int .i64 x.1) := ownJ; obtain ⟨qa10, f_qa10⟩ := o_qa10; have o_qa11 : Own (w1) (w.heap.size) 1 (.int .i64 x.2) := ownJ; obtain ⟨qa11, f_qa11⟩ := o_qa11
    have o_qr10 : Own (w1) (w.heap.size + 1) 0 (.int .i64 0) := ownJ; obtain ⟨qr10, f_qr10⟩ := o_qr10; have o_qr11 : Own (w1) (w.heap.size + 1) 1 (.int .i64 0) := ownJ; obtain ⟨qr11, f_qr11⟩ := o_qr11
    go_wp2_with fail
    refine (LM.out _).mono ?_
    rintro e w2 ⟨rfl, hb2⟩
    have hs2 : _ ≤ w2.heap.size := hb2.size
    try simp at hs2
    have o_qr20 : Own (w2) (w.heap.size + 1) 0 (.int .i64 0) := ownJ; obtain ⟨qr20, f_qr20⟩ := o_qr20; have o_qr21 : Own (w2) (w.heap.size + 1) 1 (.int .i64 0) := ownJ; obtain ⟨qr21, f_qr21⟩ := o_qr21
    go_wp2
    exact bodyPost_ret (v := .agg #[.int .i64 (can (-x.2, -x.1)).1, .int .i64 (can (-x.2, -x.1)).2]) (by simp [results, Tryz.results50, go_sem, qr20, qr21]) rfl ⟨(by first | (rw [E.out]; done) | (rw [E.out]; rfl) | (simp [E.out]; done)), belB⟩
  · have B1 := Lib.hid (bnd_no h1)
    have E := Lib.hid (show negI x = whl from kn_no (by simp [bnd_no h1]))
    clear h1
    go_enter Tryz.func50, Tryz.ntmps50
    go_wp2_with fail
    refine (l04Ok_any x _).mono ?_
    rintro e w1 ⟨rfl, hb1⟩
    have hs1 : _ ≤ w1.heap.size := hb1.size
    try simp at hs1
    rw [B1.out]
    have o_qr10 : Own (w1) (w.heap.size + 1) 0 (.int .i64 0) := ownJ; obtain ⟨qr10, f_qr10⟩ := o_qr10; have o_qr11 : Own (w1) (w.heap.size + 1) 1 (.int .i64 0) := ownJ; obtain ⟨qr11, f_qr11⟩ := o_qr11
    go_wp2_with fail
    refine (l04Whole_any _).mono ?_
    rintro e w2 ⟨rfl, hb2⟩
    have hs2 : _ ≤ w2.heap.size := hb2.size
    try simp at hs2
    have o_qr20 : Own (w2) (w.heap.size + 1) 0 (.int .i64 0) := ownJ; obtain ⟨qr20, f_qr20⟩ := o_qr20; have o_qr21 : Own (w2) (w.heap.size + 1) 1 (.int .i64 0) := ownJ; obtain ⟨qr21, f_qr21⟩ := o_qr21
    go_wp2
    exact bodyPost_ret (v := .agg #[.int .i64 (-1152921504606846976), .int .i64 1152921504606846976]) (by simp [results, Tryz.results50, go_sem, qr20, qr21]) rfl ⟨(by first | (rw [E.out]; done) | (rw [E.out]; rfl) | (simp [E.out]; done)), belB⟩
theorem sDoubleI_any (x : Iv) (w : World) : Calls Tryz.prog 63 #[.agg #[.int .i64 x.1, .int .i64 x.2]] w fun e w' =>
    e = .returned (.agg #[.int .i64 (addI x x).1, .int .i64 (addI x x).2]) ∧ Below w.heap.size w w' := by
  by_cases h1 : Bnd x
  · have B1 := Lib.hid (bnd_yes h1)
    have E := Lib.hid (show addI x x = can (2 * x.1, 2 * x.2) from dbl_add.trans (kn_yes (bnd_yes h1)))
    have LM := Lib.hid (fun w => l04Make_any (2 * x.1) (2 * x.2) w)
    obtain ⟨xa, xb, xc⟩ := h1
    have g1 : -1152921504606846976 < x.2 := by omega
    have g2 : x.1 < 1152921504606846976 := by omega
    go_enter Tryz.func63, Tryz.ntmps63
    go_wp2_with fail
    refine (l04Ok_any x _).mono ?_
    rintro e w1 ⟨rfl, hb1⟩
    have hs1 : _ ≤ w1.heap.size := hb1.size
    try simp at hs1
    rw [B1.out]
    have o_qa10 : Own (w1) (w.heap.size) 0 (.int .i64 x.1) := ownJ; obtain ⟨qa10, f_qa10⟩ := o_qa10; have o_qa11 : Own (w1) (w.heap.size) 1 (.int .i64 x.2) := ownJ; obtain ⟨qa11, f_qa11⟩ := o_qa11
    have o_qr10 : Own (w1) (w.heap.size + 1) 0 (.int .i64 0) := ownJ; obtain ⟨qr10, f_qr10⟩ := o_qr10; have o_qr11 : Own (w1) (w.heap.size + 1) 1 (.int .i64 0) := ownJ; obtain ⟨qr11, f_qr11⟩ := o_qr11
    go_wp2_with fail
    refine (LM.out _).mono ?_
    rintro e w2 ⟨rfl, hb2⟩
    have hs2 : _ ≤ w2.heap.size := hb2.size
    try simp at hs2
    have o_qr20 : Own (w2) (w.heap.size + 1) 0 (.int .i64 0) := ownJ; obtain ⟨qr20, f_qr20⟩ := o_qr20; have o_qr21 : Own (w2) (w.heap.size + 1) 1 (.int .i64 0) := ownJ; obtain ⟨qr21, f_qr21⟩ := o_qr21
    go_wp2
    exact bodyPost_ret (v := .agg #[.int .i64 (can (2 * x.1, 2 * x.2)).1, .int .i64 (can (2 * x.1, 2 * x.2)).2]) (by simp [results, Tryz.results63, go_sem, qr20, qr21]) rfl ⟨(by first | (rw [E.out]; done) | (rw [E.out]; rfl) | (simp [E.out]; done)), belB⟩
  · have B1 := Lib.hid (bnd_no h1)
    have E := Lib.hid (show addI x x = whl from dbl_add.trans (kn_no (bnd_no h1)))
    clear h1
    go_enter Tryz.func63, Tryz.ntmps63
    go_wp2_with fail
    refine (l04Ok_any x _).mono ?_
    rintro e w1 ⟨rfl, hb1⟩
    have hs1 : _ ≤ w1.heap.size := hb1.size
    try simp at hs1
    rw [B1.out]
    have o_qr10 : Own (w1) (w.heap.size + 1) 0 (.int .i64 0) := ownJ; obtain ⟨qr10, f_qr10⟩ := o_qr10; have o_qr11 : Own (w1) (w.heap.size + 1) 1 (.int .i64 0) := ownJ; obtain ⟨qr11, f_qr11⟩ := o_qr11
    go_wp2_with fail
    refine (l04Whole_any _).mono ?_
    rintro e w2 ⟨rfl, hb2⟩
    have hs2 : _ ≤ w2.heap.size := hb2.size
    try simp at hs2
    have o_qr20 : Own (w2) (w.heap.size + 1) 0 (.int .i64 0) := ownJ; obtain ⟨qr20, f_qr20⟩ := o_qr20; have o_qr21 : Own (w2) (w.heap.size + 1) 1 (.int .i64 0) := ownJ; obtain ⟨qr21, f_qr21⟩ := o_qr21
    go_wp2
    exact bodyPost_ret (v := .agg #[.int .i64 (-1152921504606846976), .int .i64 1152921504606846976]) (by simp [results, Tryz.results63, go_sem, qr20, qr21]) rfl ⟨(by first | (rw [E.out]; done) | (rw [E.out]; rfl) | (simp [E.out]; done)), belB⟩
theorem sHullI_any (x y : Iv) (w : World) : Calls Tryz.prog 80 #[.agg #[.int .i64 x.1, .int .i64 x.2], .agg #[.int .i64 y.1, .int .i64 y.2]] w fun e w' =>
    e = .returned (.agg #[.int .i64 (hulI x y).1, .int .i64 (hulI x y).2]) ∧ Below w.heap.size w w' := by
  by_cases h1 : Bnd x
  · have B1 := Lib.hid (bnd_yes h1)
    by_cases h2 : Bnd y
    · have B2 := Lib.hid (bnd_yes h2)
      have E := Lib.hid (show hulI x y = can (min x.1 y.1, max x.2 y.2) from kn_yes (by rw [bnd_yes h1, bnd_yes h2]; rfl))
      have LM := Lib.hid (fun w => l04Make_any (min x.1 y.1) (max x.2 y.2) w)
      clear h1 h2
      go_enter Tryz.func80, Tryz.ntmps80
      go_wp2_with fail
      refine (l04Ok_any x _).mono ?_
      rintro e w1 ⟨rfl, hb1⟩
      have hs1 : _ ≤ w1.heap.size := hb1.size
      try simp at hs1
      rw [B1.out]
      have o_qa10 : Own (w1) (w.heap.size) 0 (.int .i64 x.1) := ownJ; obtain ⟨qa10, f_qa10⟩ := o_qa10; have o_qa11 : Own (w1) (w.heap.size) 1 (.int .i64 x.2) := ownJ; obtain ⟨qa11, f_qa11⟩ := o_qa11
      have o_qb10 : Own (w1) (w.heap.size + 1) 0 (.int .i64 y.1) := ownJ; obtain ⟨qb10, f_qb10⟩ := o_qb10; have o_qb11 : Own (w1) (w.heap.size + 1) 1 (.int .i64 y.2) := ownJ; obtain ⟨qb11, f_qb11⟩ := o_qb11
      have o_qr10 : Own (w1) (w.heap.size + 1 + 1) 0 (.int .i64 0) := ownJ; obtain ⟨qr10, f_qr10⟩ := o_qr10; have o_qr11 : Own (w1) (w.heap.size + 1 + 1) 1 (.int .i64 0) := ownJ; obtain ⟨qr11, f_qr11⟩ := o_qr11
      go_wp2_with fail
      refine (l04Ok_any y _).mono ?_
      rintro e w2 ⟨rfl, hb2⟩
      have hs2 : _ ≤ w2.heap.size := hb2.size
      try simp at hs2
      rw [B2.out]
      have o_qa20 : Own (w2) (w.heap.size) 0 (.int .i64 x.1) := ownJ; obtain ⟨qa20, f_qa20⟩ := o_qa20; have o_qa21 : Own (w2) (w.heap.size) 1 (.int .i64 x.2) := ownJ; obtain ⟨qa21, f_qa21⟩ := o_qa21
      have o_qb20 : Own (w2) (w.heap.size + 1) 0 (.int .i64 y.1) := ownJ; obtain ⟨qb20, f_qb20⟩ := o_qb20; have o_qb21 : Own (w2) (w.heap.size + 1) 1 (.int .i64 y.2) := ownJ; obtain ⟨qb21, f_qb21⟩ := o_qb21
      have o_qr20 : Own (w2) (w.heap.size + 1 + 1) 0 (.int .i64 0) := ownJ; obtain ⟨qr20, f_qr20⟩ := o_qr20; have o_qr21 : Own (w2) (w.heap.size + 1 + 1) 1 (.int .i64 0) := ownJ; obtain ⟨qr21, f_qr21⟩ := o_qr21
      go_wp2_with fail
      obtain ⟨hlt2, hlt3, hlt4, hlt5, hlt6, hlt7, hlt8, hlt9, hlt10, hlt11⟩ := below_add; go_region_held3 (fun w' => w'.cell? ⟨w.heap.size, 0, none⟩ = some (.int .i64 x.1) ∧ w'.cell? ⟨w.heap.size, 1, none⟩ = some (.int .i64 x.2) ∧ w'.cell? ⟨w.heap.size + 1, 0, none⟩ = some (.int .i64 y.1) ∧ w'.cell? ⟨w.heap.size + 1, 1, none⟩ = some (.int .i64 y.2) ∧ (w'.cell? ⟨w.heap.size + 1 + 1, 0, none⟩ = some (peek w' ⟨w.heap.size + 1 + 1, 0, none⟩) ∧ w'.frozen? ⟨w.heap.size + 1 + 1, 0, none⟩ = false) ∧ (w'.cell? ⟨w.heap.size + 1 + 1, 1, none⟩ = some (peek w' ⟨w.heap.size + 1 + 1, 1, none⟩) ∧ w'.frozen? ⟨w.heap.size + 1 + 1, 1, none⟩ = false)) (first | (with_reducible exact ((And.imp (cell_kept (by assumption)) (And.imp (cell_kept (by assumption)) (And.imp (cell_kept (by assumption)) (And.imp (cell_kept (by assumption)) (And.imp (pslot_kept (by assumption)) (pslot_kept (by assumption))))))) (by assumption))) | (with_reducible exact ((And.imp (cell_alloc) (And.imp (cell_alloc) (And.imp (cell_alloc) (And.imp (cell_alloc) (And.imp (pslot_alloc) (pslot_alloc)))))) (by assumption))) | (with_reducible exact ((And.imp (fun h => cell_far (by first | (simp; done) | (simp; omega)) (cell_far (by first | (simp; done) | (simp; omega)) h)) (And.imp (fun h => cell_far (by first | (simp; done) | (simp; omega)) (cell_far (by first | (simp; done) | (simp; omega)) h)) (And.imp (fun h => cell_far (by first | (simp; done) | (simp; omega)) (cell_far (by first | (simp; done) | (simp; omega)) h)) (And.imp (fun h => cell_far (by first | (simp; done) | (simp; omega)) (cell_far (by first | (simp; done) | (simp; omega)) h)) (And.imp (fun h => pslot_set (pslot_set h)) (fun h => pslot_set (pslot_set h))))))) (by assumption))) | (refine ⟨?_, ?_, ?_, ?_, ?_, ?_⟩ <;> repeat (first | (with_reducible assumption) | (with_reducible refine cell_far (by first | (simp; done) | (simp; omega)) ?_) | (with_reducible refine cell_drew ?_) | (with_reducible refine cell_drewN ?_) | (with_reducible refine cell_kept (by assumption) ?_) | (with_reducible exact pslot_of (by assumption) (by assumption)) | (with_reducible refine pslot_drew ?_) | (with_reducible refine pslot_kept (by assumption) ?_) | (with_reducible refine pslot_alloc ?_) | (simp [go_sem]; done) | (with_reducible refine cell_alloc ?_))) | (simp [go_sem, *]; done)) (first | (go_at_call 121; refine (l00Min_any _ _ _).mono ?_; rintro e w1 ⟨rfl, rfl⟩) | (go_at_call 122; refine (l00Max_any _ _ _).mono ?_; rintro e w1 ⟨rfl, rfl⟩) | (go_at_call 111; refine (LM.out _).mono ?_; rintro e w1 ⟨rfl, hb⟩; have hs : _ ≤ w1.heap.size := hb.size; (try simp at hs); obtain ⟨hc, hf, hl, hn, hm⟩ := behind hb))
      all_goals (go_wp2; have o_j0 : Own (w1) (w.heap.size + 1 + 1) 0 (.int .i64 0) := ownJ; obtain ⟨j0, f_j0⟩ := o_j0; have o_j1 : Own (w1) (w.heap.size + 1 + 1) 1 (.int .i64 0) := ownJ; obtain ⟨j1, f_j1⟩ := o_j1; exact bodyPost_ret (v := .agg #[.int .i64 (can (min x.1 y.1, max x.2 y.2)).1, .int .i64 (can (min x.1 y.1, max x.2 y.2)).2]) (by simp [results, Tryz.results80, go_sem, j0, j1]) rfl ⟨(by first | (rw [E.out]; done) | (rw [E.out]; rfl) | (simp [E.out]; done)), belB⟩)
    · have B2 := Lib.hid (bnd_no h2)
      have E := Lib.hid (show hulI x y = whl from kn_no (by rw [bnd_no h2]; simp))
      clear h1 h2
      go_enter Tryz.func80, Tryz.ntmps80
      go_wp2_with fail
      refine (l04Ok_any x _).mono ?_
      rintro e w1 ⟨rfl, hb1⟩
      have hs1 : _ ≤ w1.heap.size := hb1.size
      try simp at hs1
      rw [B1.out]
      have o_qa10 : Own (w1) (w.heap.size) 0 (.int .i64 x.1) := ownJ; obtain ⟨qa10, f_qa10⟩ := o_qa10; have o_qa11 : Own (w1) (w.heap.size) 1 (.int .i64 x.2) := ownJ; obtain ⟨qa11, f_qa11⟩ := o_qa11
      have o_qb10 : Own (w1) (w.heap.size + 1) 0 (.int .i64 y.1) := ownJ; obtain ⟨qb10, f_qb10⟩ := o_qb10; have o_qb11 : Own (w1) (w.heap.size + 1) 1 (.int .i64 y.2) := ownJ; obtain ⟨qb11, f_qb11⟩ := o_qb11
      have o_qr10 : Own (w1) (w.heap.size + 1 + 1) 0 (.int .i64 0) := ownJ; obtain ⟨qr10, f_qr10⟩ := o_qr10; have o_qr11 : Own (w1) (w.heap.size + 1 + 1) 1 (.int .i64 0) := ownJ; obtain ⟨qr11, f_qr11⟩ := o_qr11
      go_wp2_with fail
      refine (l04Ok_any y _).mono ?_
      rintro e w2 ⟨rfl, hb2⟩
      have hs2 : _ ≤ w2.heap.size := hb2.size
      try simp at hs2
      rw [B2.out]
      have o_qr20 : Own (w2) (w.heap.size + 1 + 1) 0 (.int .i64 0) := ownJ; obtain ⟨qr20, f_qr20⟩ := o_qr20; have o_qr21 : Own (w2) (w.heap.size + 1 + 1) 1 (.int .i64 0) := ownJ; obtain ⟨qr21, f_qr21⟩ := o_qr21
      go_wp2_with fail
      refine (l04Whole_any _).mono ?_
      rintro e w3 ⟨rfl, hb3⟩
      have hs3 : _ ≤ w3.heap.size := hb3.size
      try simp at hs3
      have o_qr30 : Own (w3) (w.heap.size + 1 + 1) 0 (.int .i64 0) := ownJ; obtain ⟨qr30, f_qr30⟩ := o_qr30; have o_qr31 : Own (w3) (w.heap.size + 1 + 1) 1 (.int .i64 0) := ownJ; obtain ⟨qr31, f_qr31⟩ := o_qr31
      go_wp2
      exact bodyPost_ret (v := .agg #[.int .i64 (-1152921504606846976), .int .i64 1152921504606846976]) (by simp [results, Tryz.results80, go_sem, qr30, qr31]) rfl ⟨(by first | (rw [E.out]; done) | (rw [E.out]; rfl) | (simp [E.out]; done)), belB⟩
  · have B1 := Lib.hid (bnd_no h1)
    have E := Lib.hid (show hulI x y = whl from kn_no (by simp [bnd_no h1]))
    clear h1
    go_enter Tryz.func80, Tryz.ntmps80
    go_wp2_with fail
    refine (l04Ok_any x _).mono ?_
    rintro e w1 ⟨rfl, hb1⟩
    have hs1 : _ ≤ w1.heap.size := hb1.size
    try simp at hs1
    rw [B1.out]
    have o_qr10 : Own (w1) (w.heap.size + 1 + 1) 0 (.int .i64 0) := ownJ; obtain ⟨qr10, f_qr10⟩ := o_qr10; have o_qr11 : Own (w1) (w.heap.size + 1 + 1) 1 (.int .i64 0) := ownJ; obtain ⟨qr11, f_qr11⟩ := o_qr11
    go_wp2_with fail
    refine (l04Whole_any _).mono ?_
    rintro e w2 ⟨rfl, hb2⟩
    have hs2 : _ ≤ w2.heap.size := hb2.size
    try simp at hs2
    have o_qr20 : Own (w2) (w.heap.size + 1 + 1) 0 (.int .i64 0) := ownJ; obtain ⟨qr20, f_qr20⟩ := o_qr20; have o_qr21 : Own (w2) (w.heap.size + 1 + 1) 1 (.int .i64 0) := ownJ; obtain ⟨qr21, f_qr21⟩ := o_qr21
    go_wp2
    exact bodyPost_ret (v := .agg #[.int .i64 (-1152921504606846976), .int .i64 1152921504606846976]) (by simp [results, Tryz.results80, go_sem, qr20, qr21]) rfl ⟨(by first | (rw [E.out]; done) | (rw [E.out]; rfl) | (simp [E.out]; done)), belB⟩
end Go.Proofs.YtmikjgbojknlnaaGreatDoor
