/- Contracts of sums, differences and the like in the model. Conditions: numbers are int64. -/
import Derived.Test.YtmikjgbojknlnaaIvA
import Derived.Test.YtmikjgbojknlnaaMinMax
import Derived.Test.YtmikjgbojknlnaaWideZe
import Derived.Deep.RegionHeld3
import Derived.Outline
namespace Go.Proofs.Ytmikjgbojknlnaa
open Go.ChangeShapes Go.WideShapes Go.ChangeAt Go.RowKit
set_option linter.unusedVariables false
set_option maxRecDepth 100000
set_option linter.unusedSimpArgs false
set_option maxHeartbeats 1000000

theorem l00Min_any (a b : Int) (w : World) : Calls Try.prog 158 #[.int .i64 a, .int .i64 b] w fun e w' =>
    e = .returned (.int .i64 (min a b)) ∧ w = w' := by
  by_cases h : a < b
  · have E := Lib.hid (show min a b = a by omega)
    go_enter Try.func158, Try.ntmps158
    go_wp2
    go_ret
    exact ⟨(by first | (rw [E.out]; done) | (rw [E.out]; rfl) | (simp [E.out]; done)), rfl⟩
  · have E := Lib.hid (show min a b = b by omega)
    go_enter Try.func158, Try.ntmps158
    go_wp2
    go_ret
    exact ⟨(by first | (rw [E.out]; done) | (rw [E.out]; rfl) | (simp [E.out]; done)), rfl⟩
theorem l00Max_any (a b : Int) (w : World) : Calls Try.prog 159 #[.int .i64 a, .int .i64 b] w fun e w' =>
    e = .returned (.int .i64 (max a b)) ∧ w = w' := by
  by_cases h : b < a
  · have E := Lib.hid (show max a b = a by omega)
    go_enter Try.func159, Try.ntmps159
    go_wp2
    go_ret
    exact ⟨(by first | (rw [E.out]; done) | (rw [E.out]; rfl) | (simp [E.out]; done)), rfl⟩
  · have E := Lib.hid (show max a b = b by omega)
    go_enter Try.func159, Try.ntmps159
    go_wp2
    go_ret
    exact ⟨(by first | (rw [E.out]; done) | (rw [E.out]; rfl) | (simp [E.out]; done)), rfl⟩
theorem l04Has_any (x : Iv) (n : Int) (w : World) : Calls Try.prog 178 #[.agg #[.int .i64 x.1, .int .i64 x.2], .int .i64 n] w fun e w' =>
    e = .returned (.bool (decide (x.1 ≤ n ∧ n ≤ x.2))) ∧ Below w.heap.size w w' := by
  by_cases h : x.1 ≤ n ∧ n ≤ x.2
  · have E := Lib.hid (show decide (x.1 ≤ n ∧ n ≤ x.2) = true from decide_eq_true h)
    have C := Lib.hid (fun w => l00In_yes n x.1 x.2 h.1 h.2 w)
    clear h
    go_enter Try.func178, Try.ntmps178
    go_wp2_with fail
    refine (C.out _).mono ?_
    rintro e w1 ⟨rfl, rfl⟩
    go_wp2
    go_ret
    exact ⟨(by first | (rw [E.out]; done) | (rw [E.out]; rfl) | (simp [E.out]; done)), belB⟩
  · have E := Lib.hid (show decide (x.1 ≤ n ∧ n ≤ x.2) = false from decide_eq_false h)
    have C := Lib.hid (fun w => l00In_no n x.1 x.2 (by omega) w)
    clear h
    go_enter Try.func178, Try.ntmps178
    go_wp2_with fail
    refine (C.out _).mono ?_
    rintro e w1 ⟨rfl, rfl⟩
    go_wp2
    go_ret
    exact ⟨(by first | (rw [E.out]; done) | (rw [E.out]; rfl) | (simp [E.out]; done)), belB⟩
theorem sAddI_any (x y : Iv) (w : World) : Calls Try.prog 104 #[.agg #[.int .i64 x.1, .int .i64 x.2], .agg #[.int .i64 y.1, .int .i64 y.2]] w fun e w' =>
    e = .returned (.agg #[.int .i64 (addI x y).1, .int .i64 (addI x y).2]) ∧ Below w.heap.size w w' := by
  by_cases h1 : Bnd x
  · have B1 := Lib.hid (bnd_yes h1)
    by_cases h2 : Bnd y
    · have B2 := Lib.hid (bnd_yes h2)
      have E := Lib.hid (show addI x y = can (x.1 + y.1, x.2 + y.2) from kn_yes (by rw [bnd_yes h1, bnd_yes h2]; rfl))
      have LM := Lib.hid (fun w => l04Make_any (x.1 + y.1) (x.2 + y.2) w)
      obtain ⟨xa, xb, xc⟩ := h1
      obtain ⟨ya, yb, yc⟩ := h2
      have g1 : -1152921504606846976 < x.2 := by omega
      have g2 : x.1 < 1152921504606846976 := by omega
      have g3 : -1152921504606846976 < y.2 := by omega
      have g4 : y.1 < 1152921504606846976 := by omega
      go_enter Try.func104, Try.ntmps104
      go_wp2_with fail
      refine (l04Ok_any x _).mono ?_
      rintro e w1 ⟨rfl, hb1⟩
      have hs1 : _ ≤ w1.heap.size := hb1.size
      try simp at hs1
      rw [B1.out]
      have o_qa10 : Own (w1) (w.heap.size) 0 (.int .i64 x.1) := ownJ; obtain ⟨qa10, f_qa10⟩ := o_qa10; have o_qa11 : Own (w1) (w.heap.size) 1 (.int .i64 x.2) := ownJ; obtain ⟨qa11, f_qa11⟩ := o_qa11
      have o_qb10 : Own (w1) (w.heap.size + 1) 0 (.int .i64 y.1) := ownJ; obtain ⟨qb10, f_qb10⟩ := o_qb10; have o_qb11 : Own (w1) (w.heap.size + 1) 1 (.int .i64 y.2) := ownJ; obtain ⟨qb11, f_qb11⟩ := o_qb11
      have o_qr10 : Own (w1) (w.heap.size + 1 + 1) 0 (.int .i64 0) := ownJ; obtain ⟨qr10, f_qr10⟩ := o_qr10; have o_qr11 : Own (w1) (w.heap.size + 1 + 1) 1 (.int .i64 0) := ownJ; obtain ⟨qr11, f_qr11⟩ := o_qr11
      go_wp2_with fail
      refine (l04Ok_any y _).mono ?_
      rintro e w2 ⟨rfl, hb2⟩
      have hs2 : _ ≤ w2.heap.size := hb2.size
      try simp at hs2
      rw [B2.out]
      have o_qa20 : Own (w2) (w.heap.size) 0 (.int .i64 x.1) := ownJ; obtain ⟨qa20, f_qa20⟩ := o_qa20; have o_qa21 : Own (w2) (w.heap.size) 1 (.int .i64 x.2) := ownJ; obtain ⟨qa21, f_qa21⟩ := o_qa21
      have o_qb20 : Own (w2) (w.heap.size + 1) 0 (.int .i64 y.1) := ownJ; obtain ⟨qb20, f_qb20⟩ := o_qb20; have o_qb21 : Own (w2) (w.heap.size + 1) 1 (.int .i64 y.2) := ownJ; obtain ⟨qb21, f_qb21⟩ := o_qb21
      have o_qr20 : Own (w2) (w.heap.size + 1 + 1) 0 (.int .i64 0) := ownJ; obtain ⟨qr20, f_qr20⟩ := o_qr20; have o_qr21 : Own (w2) (w.heap.size + 1 + 1) 1 (.int .i64 0) := ownJ; obtain ⟨qr21, f_qr21⟩ := o_qr21
      go_wp2_with fail
      refine (LM.out _).mono ?_
      rintro e w3 ⟨rfl, hb3⟩
      have hs3 : _ ≤ w3.heap.size := hb3.size
      try simp at hs3
      have o_qr30 : Own (w3) (w.heap.size + 1 + 1) 0 (.int .i64 0) := ownJ; obtain ⟨qr30, f_qr30⟩ := o_qr30; have o_qr31 : Own (w3) (w.heap.size + 1 + 1) 1 (.int .i64 0) := ownJ; obtain ⟨qr31, f_qr31⟩ := o_qr31
      go_wp2
      exact bodyPost_ret (v := .agg #[.int .i64 (can (x.1 + y.1, x.2 + y.2)).1, .int .i64 (can (x.1 + y.1, x.2 + y.2)).2]) (by simp [results, Try.results104, go_sem, qr30, qr31]) rfl ⟨(by first | (rw [E.out]; done) | (rw [E.out]; rfl) | (simp [E.out]; done)), belB⟩
    · have B2 := Lib.hid (bnd_no h2)
      have E := Lib.hid (show addI x y = whl from kn_no (by rw [bnd_no h2]; simp))
      clear h1 h2
      go_enter Try.func104, Try.ntmps104
      go_wp2_with fail
      refine (l04Ok_any x _).mono ?_
      rintro e w1 ⟨rfl, hb1⟩
      have hs1 : _ ≤ w1.heap.size := hb1.size
      try simp at hs1
      rw [B1.out]
      have o_qa10 : Own (w1) (w.heap.size) 0 (.int .i64 x.1) := ownJ; obtain ⟨qa10, f_qa10⟩ := o_qa10; have o_qa11 : Own (w1) (w.heap.size) 1 (.int .i64 x.2) := ownJ; obtain ⟨qa11, f_qa11⟩ := o_qa11
      have o_qb10 : Own (w1) (w.heap.size + 1) 0 (.int .i64 y.1) := ownJ; obtain ⟨qb10, f_qb10⟩ := o_qb10; have o_qb11 : Own (w1) (w.heap.size + 1) 1 (.int .i64 y.2) := ownJ; obtain ⟨qb11, f_qb11⟩ := o_qb11
      have o_qr10 : Own (w1) (w.heap.size + 1 + 1) 0 (.int .i64 0) := ownJ; obtain ⟨qr10, f_qr10⟩ := o_qr10; have o_qr11 : Own (w1) (w.heap.size + 1 + 1) 1 (.int .i64 0) := ownJ; obtain ⟨qr11, f_qr11⟩ := o_qr11
      go_wp2_with fail
      refine (l04Ok_any y _).mono ?_
      rintro e w2 ⟨rfl, hb2⟩
      have hs2 : _ ≤ w2.heap.size := hb2.size
      try simp at hs2
      rw [B2.out]
      have o_qr20 : Own (w2) (w.heap.size + 1 + 1) 0 (.int .i64 0) := ownJ; obtain ⟨qr20, f_qr20⟩ := o_qr20; have o_qr21 : Own (w2) (w.heap.size + 1 + 1) 1 (.int .i64 0) := ownJ; obtain ⟨qr21, f_qr21⟩ := o_qr21
      go_wp2_with fail
      refine (l04Whole_any _).mono ?_
      rintro e w3 ⟨rfl, hb3⟩
      have hs3 : _ ≤ w3.heap.size := hb3.size
      try simp at hs3
      have o_qr30 : Own (w3) (w.heap.size + 1 + 1) 0 (.int .i64 0) := ownJ; obtain ⟨qr30, f_qr30⟩ := o_qr30; have o_qr31 : Own (w3) (w.heap.size + 1 + 1) 1 (.int .i64 0) := ownJ; obtain ⟨qr31, f_qr31⟩ := o_qr31
      go_wp2
      exact bodyPost_ret (v := .agg #[.int .i64 (-1152921504606846976), .int .i64 1152921504606846976]) (by simp [results, Try.results104, go_sem, qr30, qr31]) rfl ⟨(by first | (rw [E.out]; done) | (rw [E.out]; rfl) | (simp [E.out]; done)), belB⟩
  · have B1 := Lib.hid (bnd_no h1)
    have E := Lib.hid (show addI x y = whl from kn_no (by simp [bnd_no h1]))
    clear h1
    go_enter Try.func104, Try.ntmps104
    go_wp2_with fail
    refine (l04Ok_any x _).mono ?_
    rintro e w1 ⟨rfl, hb1⟩
    have hs1 : _ ≤ w1.heap.size := hb1.size
    try simp at hs1
    rw [B1.out]
    have o_qr10 : Own (w1) (w.heap.size + 1 + 1) 0 (.int .i64 0) := ownJ; obtain ⟨qr10, f_qr10⟩ := o_qr10; have o_qr11 : Own (w1) (w.heap.size + 1 + 1) 1 (.int .i64 0) := ownJ; obtain ⟨qr11, f_qr11⟩ := o_qr11
    go_wp2_with fail
    refine (l04Whole_any _).mono ?_
    rintro e w2 ⟨rfl, hb2⟩
    have hs2 : _ ≤ w2.heap.size := hb2.size
    try simp at hs2
    have o_qr20 : Own (w2) (w.heap.size + 1 + 1) 0 (.int .i64 0) := ownJ; obtain ⟨qr20, f_qr20⟩ := o_qr20; have o_qr21 : Own (w2) (w.heap.size + 1 + 1) 1 (.int .i64 0) := ownJ; obtain ⟨qr21, f_qr21⟩ := o_qr21
    go_wp2
    exact bodyPost_ret (v := .agg #[.int .i64 (-1152921504606846976), .int .i64 1152921504606846976]) (by simp [results, Try.results104, go_sem, qr20, qr21]) rfl ⟨(by first | (rw [E.out]; done) | (rw [E.out]; rfl) | (simp [E.out]; done)), belB⟩
theorem sSubI_any (x y : Iv) (w : World) : Calls Try.prog 119 #[.agg #[.int .i64 x.1, .int .i64 x.2], .agg #[.int .i64 y.1, .int .i64 y.2]] w fun e w' =>
    e = .returned (.agg #[.int .i64 (subI x y).1, .int .i64 (subI x y).2]) ∧ Below w.heap.size w w' := by
  by_cases h1 : Bnd x
  · have B1 := Lib.hid (bnd_yes h1)
    by_cases h2 : Bnd y
    · have B2 := Lib.hid (bnd_yes h2)
      have E := Lib.hid (show subI x y = can (x.1 - y.2, x.2 - y.1) from kn_yes (by rw [bnd_yes h1, bnd_yes h2]; rfl))
      have LM := Lib.hid (fun w => l04Make_any (x.1 - y.2) (x.2 - y.1) w)
      obtain ⟨xa, xb, xc⟩ := h1
      obtain ⟨ya, yb, yc⟩ := h2
      have g1 : -1152921504606846976 < x.2 := by omega
      have g2 : x.1 < 1152921504606846976 := by omega
      have g3 : -1152921504606846976 < y.2 := by omega
      have g4 : y.1 < 1152921504606846976 := by omega
      go_enter Try.func119, Try.ntmps119
      go_wp2_with fail
      refine (l04Ok_any x _).mono ?_
      rintro e w1 ⟨rfl, hb1⟩
      have hs1 : _ ≤ w1.heap.size := hb1.size
      try simp at hs1
      rw [B1.out]
      have o_qa10 : Own (w1) (w.heap.size) 0 (.int .i64 x.1) := ownJ; obtain ⟨qa10, f_qa10⟩ := o_qa10; have o_qa11 : Own (w1) (w.heap.size) 1 (.int .i64 x.2) := ownJ; obtain ⟨qa11, f_qa11⟩ := o_qa11
      have o_qb10 : Own (w1) (w.heap.size + 1) 0 (.int .i64 y.1) := ownJ; obtain ⟨qb10, f_qb10⟩ := o_qb10; have o_qb11 : Own (w1) (w.heap.size + 1) 1 (.int .i64 y.2) := ownJ; obtain ⟨qb11, f_qb11⟩ := o_qb11
      have o_qr10 : Own (w1) (w.heap.size + 1 + 1) 0 (.int .i64 0) := ownJ; obtain ⟨qr10, f_qr10⟩ := o_qr10; have o_qr11 : Own (w1) (w.heap.size + 1 + 1) 1 (.int .i64 0) := ownJ; obtain ⟨qr11, f_qr11⟩ := o_qr11
      go_wp2_with fail
      refine (l04Ok_any y _).mono ?_
      rintro e w2 ⟨rfl, hb2⟩
      have hs2 : _ ≤ w2.heap.size := hb2.size
      try simp at hs2
      rw [B2.out]
      have o_qa20 : Own (w2) (w.heap.size) 0 (.int .i64 x.1) := ownJ; obtain ⟨qa20, f_qa20⟩ := o_qa20; have o_qa21 : Own (w2) (w.heap.size) 1 (.int .i64 x.2) := ownJ; obtain ⟨qa21, f_qa21⟩ := o_qa21
      have o_qb20 : Own (w2) (w.heap.size + 1) 0 (.int .i64 y.1) := ownJ; obtain ⟨qb20, f_qb20⟩ := o_qb20; have o_qb21 : Own (w2) (w.heap.size + 1) 1 (.int .i64 y.2) := ownJ; obtain ⟨qb21, f_qb21⟩ := o_qb21
      have o_qr20 : Own (w2) (w.heap.size + 1 + 1) 0 (.int .i64 0) := ownJ; obtain ⟨qr20, f_qr20⟩ := o_qr20; have o_qr21 : Own (w2) (w.heap.size + 1 + 1) 1 (.int .i64 0) := ownJ; obtain ⟨qr21, f_qr21⟩ := o_qr21
      go_wp2_with fail
      refine (LM.out _).mono ?_
      rintro e w3 ⟨rfl, hb3⟩
      have hs3 : _ ≤ w3.heap.size := hb3.size
      try simp at hs3
      have o_qr30 : Own (w3) (w.heap.size + 1 + 1) 0 (.int .i64 0) := ownJ; obtain ⟨qr30, f_qr30⟩ := o_qr30; have o_qr31 : Own (w3) (w.heap.size + 1 + 1) 1 (.int .i64 0) := ownJ; obtain ⟨qr31, f_qr31⟩ := o_qr31
      go_wp2
      exact bodyPost_ret (v := .agg #[.int .i64 (can (x.1 - y.2, x.2 - y.1)).1, .int .i64 (can (x.1 - y.2, x.2 - y.1)).2]) (by simp [results, Try.results119, go_sem, qr30, qr31]) rfl ⟨(by first | (rw [E.out]; done) | (rw [E.out]; rfl) | (simp [E.out]; done)), belB⟩
    · have B2 := Lib.hid (bnd_no h2)
      have E := Lib.hid (show subI x y = whl from kn_no (by rw [bnd_no h2]; simp))
      clear h1 h2
      go_enter Try.func119, Try.ntmps119
      go_wp2_with fail
      refine (l04Ok_any x _).mono ?_
      rintro e w1 ⟨rfl, hb1⟩
      have hs1 : _ ≤ w1.heap.size := hb1.size
      try simp at hs1
      rw [B1.out]
      have o_qa10 : Own (w1) (w.heap.size) 0 (.int .i64 x.1) := ownJ; obtain ⟨qa10, f_qa10⟩ := o_qa10; have o_qa11 : Own (w1) (w.heap.size) 1 (.int .i64 x.2) := ownJ; obtain ⟨qa11, f_qa11⟩ := o_qa11
      have o_qb10 : Own (w1) (w.heap.size + 1) 0 (.int .i64 y.1) := ownJ; obtain ⟨qb10, f_qb10⟩ := o_qb10; have o_qb11 : Own (w1) (w.heap.size + 1) 1 (.int .i64 y.2) := ownJ; obtain ⟨qb11, f_qb11⟩ := o_qb11
      have o_qr10 : Own (w1) (w.heap.size + 1 + 1) 0 (.int .i64 0) := ownJ; obtain ⟨qr10, f_qr10⟩ := o_qr10; have o_qr11 : Own (w1) (w.heap.size + 1 + 1) 1 (.int .i64 0) := ownJ; obtain ⟨qr11, f_qr11⟩ := o_qr11
      go_wp2_with fail
      refine (l04Ok_any y _).mono ?_
      rintro e w2 ⟨rfl, hb2⟩
      have hs2 : _ ≤ w2.heap.size := hb2.size
      try simp at hs2
      rw [B2.out]
      have o_qr20 : Own (w2) (w.heap.size + 1 + 1) 0 (.int .i64 0) := ownJ; obtain ⟨qr20, f_qr20⟩ := o_qr20; have o_qr21 : Own (w2) (w.heap.size + 1 + 1) 1 (.int .i64 0) := ownJ; obtain ⟨qr21, f_qr21⟩ := o_qr21
      go_wp2_with fail
      refine (l04Whole_any _).mono ?_
      rintro e w3 ⟨rfl, hb3⟩
      have hs3 : _ ≤ w3.heap.size := hb3.size
      try simp at hs3
      have o_qr30 : Own (w3) (w.heap.size + 1 + 1) 0 (.int .i64 0) := ownJ; obtain ⟨qr30, f_qr30⟩ := o_qr30; have o_qr31 : Own (w3) (w.heap.size + 1 + 1) 1 (.int .i64 0) := ownJ; obtain ⟨qr31, f_qr31⟩ := o_qr31
      go_wp2
      exact bodyPost_ret (v := .agg #[.int .i64 (-1152921504606846976), .int .i64 1152921504606846976]) (by simp [results, Try.results119, go_sem, qr30, qr31]) rfl ⟨(by first | (rw [E.out]; done) | (rw [E.out]; rfl) | (simp [E.out]; done)), belB⟩
  · have B1 := Lib.hid (bnd_no h1)
    have E := Lib.hid (show subI x y = whl from kn_no (by simp [bnd_no h1]))
    clear h1
    go_enter Try.func119, Try.ntmps119
    go_wp2_with fail
    refine (l04Ok_any x _).mono ?_
    rintro e w1 ⟨rfl, hb1⟩
    have hs1 : _ ≤ w1.heap.size := hb1.size
    try simp at hs1
    rw [B1.out]
    have o_qr10 : Own (w1) (w.heap.size + 1 + 1) 0 (.int .i64 0) := ownJ; obtain ⟨qr10, f_qr10⟩ := o_qr10; have o_qr11 : Own (w1) (w.heap.size + 1 + 1) 1 (.int .i64 0) := ownJ; obtain ⟨qr11, f_qr11⟩ := o_qr11
    go_wp2_with fail
    refine (l04Whole_any _).mono ?_
    rintro e w2 ⟨rfl, hb2⟩
    have hs2 : _ ≤ w2.heap.size := hb2.size
    try simp at hs2
    have o_qr20 : Own (w2) (w.heap.size + 1 + 1) 0 (.int .i64 0) := ownJ; obtain ⟨qr20, f_qr20⟩ := o_qr20; have o_qr21 : Own (w2) (w.heap.size + 1 + 1) 1 (.int .i64 0) := ownJ; obtain ⟨qr21, f_qr21⟩ := o_qr21
    go_wp2
    exact bodyPost_ret (v := .agg #[.int .i64 (-1152921504606846976), .int .i64 1152921504606846976]) (by simp [results, Try.results119, go_sem, qr20, qr21]) rfl ⟨(by first | (rw [E.out]; done) | (rw [E.out]; rfl) | (simp [E.out]; done)), belB⟩
end Go.Proofs.Ytmikjgbojknlnaa
