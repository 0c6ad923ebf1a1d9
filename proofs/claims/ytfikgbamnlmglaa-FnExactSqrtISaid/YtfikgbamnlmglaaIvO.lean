/- Contracts of tests of intervals, program and model alike. Conditions: numbers are int64. -/
import Derived.Test.YtfikgbamnlmglaaIvN
import Derived.Test.YtfikgbamnlmglaaIvF
import Derived.Outline
namespace Go.Proofs.Ytfikgbamnlmglaa
open Go.ChangeShapes Go.WideShapes Go.ChangeAt Go.RowKit
set_option linter.unusedVariables false
set_option maxRecDepth 100000
set_option linter.unusedSimpArgs false
set_option maxHeartbeats 1000000

theorem sHasI_any (x : Iv) (n : Int) (w : World) : Calls Try.prog 95 #[.agg #[.int .i64 x.1, .int .i64 x.2], .int .i64 n] w fun e w' =>
    e = .returned (.bool (hasI x n)) ∧ Below w.heap.size w w' := by
  by_cases h : Bnd x
  · have B := Lib.hid (bnd_yes h)
    have E := Lib.hid (show hasI x n = decide (x.1 ≤ n ∧ n ≤ x.2) by unfold hasI; rw [Bool.eq_iff_iff]; simp [h])
    clear h
    cases hq : decide (x.1 ≤ n ∧ n ≤ x.2)
    all_goals
      have HQ := Lib.hid hq
      clear hq
      go_enter Try.func95, Try.ntmps95
      go_wp2_with fail
      refine (l04Ok_any x _).mono ?_
      rintro e w1 ⟨rfl, hb1⟩
      have hs1 : _ ≤ w1.heap.size := hb1.size
      try simp at hs1
      rw [B.out]
      have o_qa10 : Own (w1) (w.heap.size) 0 (.int .i64 x.1) := (by repeat (first | (with_reducible assumption) | (with_reducible refine own_drew ?_) | (with_reducible refine own_drewN ?_) | (with_reducible refine own_kept (by assumption) ?_) | (refine ⟨?_, ?_⟩ <;> simp [go_sem]; done) | (with_reducible refine own_alloc ?_))); obtain ⟨qa10, f_qa10⟩ := o_qa10; have o_qa11 : Own (w1) (w.heap.size) 1 (.int .i64 x.2) := (by repeat (first | (with_reducible assumption) | (with_reducible refine own_drew ?_) | (with_reducible refine own_drewN ?_) | (with_reducible refine own_kept (by assumption) ?_) | (refine ⟨?_, ?_⟩ <;> simp [go_sem]; done) | (with_reducible refine own_alloc ?_))); obtain ⟨qa11, f_qa11⟩ := o_qa11
      go_wp2_with fail
      refine (l04Has_any x n _).mono ?_
      rintro e w2 ⟨rfl, hb2⟩
      have hs2 : _ ≤ w2.heap.size := hb2.size
      try simp at hs2
      rw [HQ.out]
      go_wp2
      go_ret
      exact ⟨by rw [E.out, HQ.out]; rfl, (by repeat (first | exact Below.refl _ _ | refine Below.drew ?_ | refine below_dn ?_ _ | refine Below.setCell ?_ (by first | omega | (simp; done) | (simp; omega)) _ | refine Below.alloc ?_ (by first | omega | (simp; done) | (simp; omega)) _ | refine Below.trans ?_ (Below.mono (by assumption) (by first | omega | (simp; done) | (simp; omega)))))⟩
  · have B := Lib.hid (bnd_no h)
    have E := Lib.hid (show hasI x n = true from decide_eq_true (.inl h))
    clear h
    go_enter Try.func95, Try.ntmps95
    go_wp2_with fail
    refine (l04Ok_any x _).mono ?_
    rintro e w1 ⟨rfl, hb1⟩
    have hs1 : _ ≤ w1.heap.size := hb1.size
    try simp at hs1
    rw [B.out]
    have o_qa10 : Own (w1) (w.heap.size) 0 (.int .i64 x.1) := (by repeat (first | (with_reducible assumption) | (with_reducible refine own_drew ?_) | (with_reducible refine own_drewN ?_) | (with_reducible refine own_kept (by assumption) ?_) | (refine ⟨?_, ?_⟩ <;> simp [go_sem]; done) | (with_reducible refine own_alloc ?_))); obtain ⟨qa10, f_qa10⟩ := o_qa10; have o_qa11 : Own (w1) (w.heap.size) 1 (.int .i64 x.2) := (by repeat (first | (with_reducible assumption) | (with_reducible refine own_drew ?_) | (with_reducible refine own_drewN ?_) | (with_reducible refine own_kept (by assumption) ?_) | (refine ⟨?_, ?_⟩ <;> simp [go_sem]; done) | (with_reducible refine own_alloc ?_))); obtain ⟨qa11, f_qa11⟩ := o_qa11
    go_wp2
    go_ret
    exact ⟨(by first | (rw [E.out]; done) | (rw [E.out]; rfl) | (simp [E.out]; done)), (by repeat (first | exact Below.refl _ _ | refine Below.drew ?_ | refine below_dn ?_ _ | refine Below.setCell ?_ (by first | omega | (simp; done) | (simp; omega)) _ | refine Below.alloc ?_ (by first | omega | (simp; done) | (simp; omega)) _ | refine Below.trans ?_ (Below.mono (by assumption) (by first | omega | (simp; done) | (simp; omega)))))⟩
theorem sWidthI_any (x : Iv) (w : World) : Calls Try.prog 103 #[.agg #[.int .i64 x.1, .int .i64 x.2]] w fun e w' =>
    e = .returned (.int .i64 (widI x)) ∧ Below w.heap.size w w' := by
  by_cases h : Bnd x
  · have B := Lib.hid (bnd_yes h)
    have E := Lib.hid (show widI x = x.2 - x.1 from if_pos h)
    obtain ⟨xa, xb, xc⟩ := h
    have g1 : -1152921504606846976 < x.2 := by omega
    have g2 : x.1 < 1152921504606846976 := by omega
    go_enter Try.func103, Try.ntmps103
    go_wp2_with fail
    refine (l04Ok_any x _).mono ?_
    rintro e w1 ⟨rfl, hb1⟩
    have hs1 : _ ≤ w1.heap.size := hb1.size
    try simp at hs1
    rw [B.out]
    have o_qa10 : Own (w1) (w.heap.size) 0 (.int .i64 x.1) := (by repeat (first | (with_reducible assumption) | (with_reducible refine own_drew ?_) | (with_reducible refine own_drewN ?_) | (with_reducible refine own_kept (by assumption) ?_) | (refine ⟨?_, ?_⟩ <;> simp [go_sem]; done) | (with_reducible refine own_alloc ?_))); obtain ⟨qa10, f_qa10⟩ := o_qa10; have o_qa11 : Own (w1) (w.heap.size) 1 (.int .i64 x.2) := (by repeat (first | (with_reducible assumption) | (with_reducible refine own_drew ?_) | (with_reducible refine own_drewN ?_) | (with_reducible refine own_kept (by assumption) ?_) | (refine ⟨?_, ?_⟩ <;> simp [go_sem]; done) | (with_reducible refine own_alloc ?_))); obtain ⟨qa11, f_qa11⟩ := o_qa11
    go_wp2
    go_ret
    exact ⟨(by first | (rw [E.out]; done) | (rw [E.out]; rfl) | (simp [E.out]; done)), (by repeat (first | exact Below.refl _ _ | refine Below.drew ?_ | refine below_dn ?_ _ | refine Below.setCell ?_ (by first | omega | (simp; done) | (simp; omega)) _ | refine Below.alloc ?_ (by first | omega | (simp; done) | (simp; omega)) _ | refine Below.trans ?_ (Below.mono (by assumption) (by first | omega | (simp; done) | (simp; omega)))))⟩
  · have B := Lib.hid (bnd_no h)
    have E := Lib.hid (show widI x = -1 from if_neg h)
    clear h
    go_enter Try.func103, Try.ntmps103
    go_wp2_with fail
    refine (l04Ok_any x _).mono ?_
    rintro e w1 ⟨rfl, hb1⟩
    have hs1 : _ ≤ w1.heap.size := hb1.size
    try simp at hs1
    rw [B.out]
    have o_qa10 : Own (w1) (w.heap.size) 0 (.int .i64 x.1) := (by repeat (first | (with_reducible assumption) | (with_reducible refine own_drew ?_) | (with_reducible refine own_drewN ?_) | (with_reducible refine own_kept (by assumption) ?_) | (refine ⟨?_, ?_⟩ <;> simp [go_sem]; done) | (with_reducible refine own_alloc ?_))); obtain ⟨qa10, f_qa10⟩ := o_qa10; have o_qa11 : Own (w1) (w.heap.size) 1 (.int .i64 x.2) := (by repeat (first | (with_reducible assumption) | (with_reducible refine own_drew ?_) | (with_reducible refine own_drewN ?_) | (with_reducible refine own_kept (by assumption) ?_) | (refine ⟨?_, ?_⟩ <;> simp [go_sem]; done) | (with_reducible refine own_alloc ?_))); obtain ⟨qa11, f_qa11⟩ := o_qa11
    go_wp2
    go_ret
    exact ⟨(by first | (rw [E.out]; done) | (rw [E.out]; rfl) | (simp [E.out]; done)), (by repeat (first | exact Below.refl _ _ | refine Below.drew ?_ | refine below_dn ?_ _ | refine Below.setCell ?_ (by first | omega | (simp; done) | (simp; omega)) _ | refine Below.alloc ?_ (by first | omega | (simp; done) | (simp; omega)) _ | refine Below.trans ?_ (Below.mono (by assumption) (by first | omega | (simp; done) | (simp; omega)))))⟩
theorem WidthI_any (x : Iv) (w : World) : Calls Try.prog 104 #[.agg #[.int .i64 x.1, .int .i64 x.2]] w fun e w' =>
    e = .returned (.int .i64 (widI x)) ∧ Below w.heap.size w w' := by
  by_cases h : Bnd x
  · have B := Lib.hid (bnd_yes h)
    have E := Lib.hid (show widI x = x.2 - x.1 from if_pos h)
    obtain ⟨xa, xb, xc⟩ := h
    have g1 : -1152921504606846976 < x.2 := by omega
    have g2 : x.1 < 1152921504606846976 := by omega
    go_enter Try.func104, Try.ntmps104
    go_wp2_with fail
    refine (IsWhole_any x _).mono ?_
    rintro e w1 ⟨rfl, hb1⟩
    have hs1 : _ ≤ w1.heap.size := hb1.size
    try simp at hs1
    rw [B.out]
    have o_qa10 : Own (w1) (w.heap.size) 0 (.int .i64 x.1) := (by repeat (first | (with_reducible assumption) | (with_reducible refine own_drew ?_) | (with_reducible refine own_drewN ?_) | (with_reducible refine own_kept (by assumption) ?_) | (refine ⟨?_, ?_⟩ <;> simp [go_sem]; done) | (with_reducible refine own_alloc ?_))); obtain ⟨qa10, f_qa10⟩ := o_qa10; have o_qa11 : Own (w1) (w.heap.size) 1 (.int .i64 x.2) := (by repeat (first | (with_reducible assumption) | (with_reducible refine own_drew ?_) | (with_reducible refine own_drewN ?_) | (with_reducible refine own_kept (by assumption) ?_) | (refine ⟨?_, ?_⟩ <;> simp [go_sem]; done) | (with_reducible refine own_alloc ?_))); obtain ⟨qa11, f_qa11⟩ := o_qa11
    go_wp2
    go_ret
    exact ⟨(by first | (rw [E.out]; done) | (rw [E.out]; rfl) | (simp [E.out]; done)), (by repeat (first | exact Below.refl _ _ | refine Below.drew ?_ | refine below_dn ?_ _ | refine Below.setCell ?_ (by first | omega | (simp; done) | (simp; omega)) _ | refine Below.alloc ?_ (by first | omega | (simp; done) | (simp; omega)) _ | refine Below.trans ?_ (Below.mono (by assumption) (by first | omega | (simp; done) | (simp; omega)))))⟩
  · have B := Lib.hid (bnd_no h)
    have E := Lib.hid (show widI x = -1 from if_neg h)
    clear h
    go_enter Try.func104, Try.ntmps104
    go_wp2_with fail
    refine (IsWhole_any x _).mono ?_
    rintro e w1 ⟨rfl, hb1⟩
    have hs1 : _ ≤ w1.heap.size := hb1.size
    try simp at hs1
    rw [B.out]
    have o_qa10 : Own (w1) (w.heap.size) 0 (.int .i64 x.1) := (by repeat (first | (with_reducible assumption) | (with_reducible refine own_drew ?_) | (with_reducible refine own_drewN ?_) | (with_reducible refine own_kept (by assumption) ?_) | (refine ⟨?_, ?_⟩ <;> simp [go_sem]; done) | (with_reducible refine own_alloc ?_))); obtain ⟨qa10, f_qa10⟩ := o_qa10; have o_qa11 : Own (w1) (w.heap.size) 1 (.int .i64 x.2) := (by repeat (first | (with_reducible assumption) | (with_reducible refine own_drew ?_) | (with_reducible refine own_drewN ?_) | (with_reducible refine own_kept (by assumption) ?_) | (refine ⟨?_, ?_⟩ <;> simp [go_sem]; done) | (with_reducible refine own_alloc ?_))); obtain ⟨qa11, f_qa11⟩ := o_qa11
    go_wp2
    go_ret
    exact ⟨(by first | (rw [E.out]; done) | (rw [E.out]; rfl) | (simp [E.out]; done)), (by repeat (first | exact Below.refl _ _ | refine Below.drew ?_ | refine below_dn ?_ _ | refine Below.setCell ?_ (by first | omega | (simp; done) | (simp; omega)) _ | refine Below.alloc ?_ (by first | omega | (simp; done) | (simp; omega)) _ | refine Below.trans ?_ (Below.mono (by assumption) (by first | omega | (simp; done) | (simp; omega)))))⟩
theorem sMidI_any (x : Iv) (w : World) : Calls Try.prog 105 #[.agg #[.int .i64 x.1, .int .i64 x.2]] w fun e w' =>
    e = .returned (.int .i64 (midI x)) ∧ Below w.heap.size w w' := by
  by_cases h : Bnd x
  · have B := Lib.hid (bnd_yes h)
    have E := Lib.hid (show midI x = (x.1 + x.2) / 2 from if_pos h)
    obtain ⟨xa, xb, xc⟩ := h
    have g1 : -1152921504606846976 < x.2 := by omega
    have g2 : x.1 < 1152921504606846976 := by omega
    go_enter Try.func105, Try.ntmps105
    go_wp2_with fail
    refine (l04Ok_any x _).mono ?_
    rintro e w1 ⟨rfl, hb1⟩
    have hs1 : _ ≤ w1.heap.size := hb1.size
    try simp at hs1
    rw [B.out]
    have o_qa10 : Own (w1) (w.heap.size) 0 (.int .i64 x.1) := (by repeat (first | (with_reducible assumption) | (with_reducible refine own_drew ?_) | (with_reducible refine own_drewN ?_) | (with_reducible refine own_kept (by assumption) ?_) | (refine ⟨?_, ?_⟩ <;> simp [go_sem]; done) | (with_reducible refine own_alloc ?_))); obtain ⟨qa10, f_qa10⟩ := o_qa10; have o_qa11 : Own (w1) (w.heap.size) 1 (.int .i64 x.2) := (by repeat (first | (with_reducible assumption) | (with_reducible refine own_drew ?_) | (with_reducible refine own_drewN ?_) | (with_reducible refine own_kept (by assumption) ?_) | (refine ⟨?_, ?_⟩ <;> simp [go_sem]; done) | (with_reducible refine own_alloc ?_))); obtain ⟨qa11, f_qa11⟩ := o_qa11
    go_wp2
    go_ret
    exact ⟨(by first | (rw [E.out]; done) | (rw [E.out]; rfl) | (simp [E.out]; done)), (by repeat (first | exact Below.refl _ _ | refine Below.drew ?_ | refine below_dn ?_ _ | refine Below.setCell ?_ (by first | omega | (simp; done) | (simp; omega)) _ | refine Below.alloc ?_ (by first | omega | (simp; done) | (simp; omega)) _ | refine Below.trans ?_ (Below.mono (by assumption) (by first | omega | (simp; done) | (simp; omega)))))⟩
  · have B := Lib.hid (bnd_no h)
    have E := Lib.hid (show midI x = 0 from if_neg h)
    clear h
    go_enter Try.func105, Try.ntmps105
    go_wp2_with fail
    refine (l04Ok_any x _).mono ?_
    rintro e w1 ⟨rfl, hb1⟩
    have hs1 : _ ≤ w1.heap.size := hb1.size
    try simp at hs1
    rw [B.out]
    have o_qa10 : Own (w1) (w.heap.size) 0 (.int .i64 x.1) := (by repeat (first | (with_reducible assumption) | (with_reducible refine own_drew ?_) | (with_reducible refine own_drewN ?_) | (with_reducible refine own_kept (by assumption) ?_) | (refine ⟨?_, ?_⟩ <;> simp [go_sem]; done) | (with_reducible refine own_alloc ?_))); obtain ⟨qa10, f_qa10⟩ := o_qa10; have o_qa11 : Own (w1) (w.heap.size) 1 (.int .i64 x.2) := (by repeat (first | (with_reducible assumption) | (with_reducible refine own_drew ?_) | (with_reducible refine own_drewN ?_) | (with_reducible refine own_kept (by assumption) ?_) | (refine ⟨?_, ?_⟩ <;> simp [go_sem]; done) | (with_reducible refine own_alloc ?_))); obtain ⟨qa11, f_qa11⟩ := o_qa11
    go_wp2
    go_ret
    exact ⟨(by first | (rw [E.out]; done) | (rw [E.out]; rfl) | (simp [E.out]; done)), (by repeat (first | exact Below.refl _ _ | refine Below.drew ?_ | refine below_dn ?_ _ | refine Below.setCell ?_ (by first | omega | (simp; done) | (simp; omega)) _ | refine Below.alloc ?_ (by first | omega | (simp; done) | (simp; omega)) _ | refine Below.trans ?_ (Below.mono (by assumption) (by first | omega | (simp; done) | (simp; omega)))))⟩
theorem MidI_any (x : Iv) (w : World) : Calls Try.prog 106 #[.agg #[.int .i64 x.1, .int .i64 x.2]] w fun e w' =>
    e = .returned (.int .i64 (midI x)) ∧ Below w.heap.size w w' := by
  by_cases h : Bnd x
  · have B := Lib.hid (bnd_yes h)
    have E := Lib.hid (show midI x = (x.1 + x.2) / 2 from if_pos h)
    obtain ⟨xa, xb, xc⟩ := h
    have g1 : -1152921504606846976 < x.2 := by omega
    have g2 : x.1 < 1152921504606846976 := by omega
    go_enter Try.func106, Try.ntmps106
    go_wp2_with fail
    refine (IsWhole_any x _).mono ?_
    rintro e w1 ⟨rfl, hb1⟩
    have hs1 : _ ≤ w1.heap.size := hb1.size
    try simp at hs1
    rw [B.out]
    have o_qa10 : Own (w1) (w.heap.size) 0 (.int .i64 x.1) := (by repeat (first | (with_reducible assumption) | (with_reducible refine own_drew ?_) | (with_reducible refine own_drewN ?_) | (with_reducible refine own_kept (by assumption) ?_) | (refine ⟨?_, ?_⟩ <;> simp [go_sem]; done) | (with_reducible refine own_alloc ?_))); obtain ⟨qa10, f_qa10⟩ := o_qa10; have o_qa11 : Own (w1) (w.heap.size) 1 (.int .i64 x.2) := (by repeat (first | (with_reducible assumption) | (with_reducible refine own_drew ?_) | (with_reducible refine own_drewN ?_) | (with_reducible refine own_kept (by assumption) ?_) | (refine ⟨?_, ?_⟩ <;> simp [go_sem]; done) | (with_reducible refine own_alloc ?_))); obtain ⟨qa11, f_qa11⟩ := o_qa11
    go_wp2
    go_ret
    exact ⟨(by first | (rw [E.out]; done) | (rw [E.out]; rfl) | (simp [E.out]; done)), (by repeat (first | exact Below.refl _ _ | refine Below.drew ?_ | refine below_dn ?_ _ | refine Below.setCell ?_ (by first | omega | (simp; done) | (simp; omega)) _ | refine Below.alloc ?_ (by first | omega | (simp; done) | (simp; omega)) _ | refine Below.trans ?_ (Below.mono (by assumption) (by first | omega | (simp; done) | (simp; omega)))))⟩
  · have B := Lib.hid (bnd_no h)
    have E := Lib.hid (show midI x = 0 from if_neg h)
    clear h
    go_enter Try.func106, Try.ntmps106
    go_wp2_with fail
    refine (IsWhole_any x _).mono ?_
    rintro e w1 ⟨rfl, hb1⟩
    have hs1 : _ ≤ w1.heap.size := hb1.size
    try simp at hs1
    rw [B.out]
    have o_qa10 : Own (w1) (w.heap.size) 0 (.int .i64 x.1) := (by repeat (first | (with_reducible assumption) | (with_reducible refine own_drew ?_) | (with_reducible refine own_drewN ?_) | (with_reducible refine own_kept (by assumption) ?_) | (refine ⟨?_, ?_⟩ <;> simp [go_sem]; done) | (with_reducible refine own_alloc ?_))); obtain ⟨qa10, f_qa10⟩ := o_qa10; have o_qa11 : Own (w1) (w.heap.size) 1 (.int .i64 x.2) := (by repeat (first | (with_reducible assumption) | (with_reducible refine own_drew ?_) | (with_reducible refine own_drewN ?_) | (with_reducible refine own_kept (by assumption) ?_) | (refine ⟨?_, ?_⟩ <;> simp [go_sem]; done) | (with_reducible refine own_alloc ?_))); obtain ⟨qa11, f_qa11⟩ := o_qa11
    go_wp2
    go_ret
    exact ⟨(by first | (rw [E.out]; done) | (rw [E.out]; rfl) | (simp [E.out]; done)), (by repeat (first | exact Below.refl _ _ | refine Below.drew ?_ | refine below_dn ?_ _ | refine Below.setCell ?_ (by first | omega | (simp; done) | (simp; omega)) _ | refine Below.alloc ?_ (by first | omega | (simp; done) | (simp; omega)) _ | refine Below.trans ?_ (Below.mono (by assumption) (by first | omega | (simp; done) | (simp; omega)))))⟩
theorem sLessI_any (x y : Iv) (w : World) : Calls Try.prog 101 #[.agg #[.int .i64 x.1, .int .i64 x.2], .agg #[.int .i64 y.1, .int .i64 y.2]] w fun e w' =>
    e = .returned (.int .i64 (lesI x y)) ∧ Below w.heap.size w w' := by
  by_cases h1 : Bnd x
  · have B1 := Lib.hid (bnd_yes h1)
    by_cases h2 : Bnd y
    · have B2 := Lib.hid (bnd_yes h2)
      have G := show lesI x y = (if x.2 < y.1 then 1 else if y.2 ≤ x.1 then 0 else 2) from if_pos ⟨h1, h2⟩
      clear h1 h2
      by_cases p : x.2 < y.1
      · have E := Lib.hid (G.trans (if_pos p))
        clear G
        go_enter Try.func101, Try.ntmps101
        go_wp2_with fail
        refine (l04Ok_any x _).mono ?_
        rintro e w1 ⟨rfl, hb1⟩
        have hs1 : _ ≤ w1.heap.size := hb1.size
        try simp at hs1
        rw [B1.out]
        have o_qa10 : Own (w1) (w.heap.size) 0 (.int .i64 x.1) := (by repeat (first | (with_reducible assumption) | (with_reducible refine own_drew ?_) | (with_reducible refine own_drewN ?_) | (with_reducible refine own_kept (by assumption) ?_) | (refine ⟨?_, ?_⟩ <;> simp [go_sem]; done) | (with_reducible refine own_alloc ?_))); obtain ⟨qa10, f_qa10⟩ := o_qa10; have o_qa11 : Own (w1) (w.heap.size) 1 (.int .i64 x.2) := (by repeat (first | (with_reducible assumption) | (with_reducible refine own_drew ?_) | (with_reducible refine own_drewN ?_) | (with_reducible refine own_kept (by assumption) ?_) | (refine ⟨?_, ?_⟩ <;> simp [go_sem]; done) | (with_reducible refine own_alloc ?_))); obtain ⟨qa11, f_qa11⟩ := o_qa11
        have o_qb10 : Own (w1) (w.heap.size + 1) 0 (.int .i64 y.1) := (by repeat (first | (with_reducible assumption) | (with_reducible refine own_drew ?_) | (with_reducible refine own_drewN ?_) | (with_reducible refine own_kept (by assumption) ?_) | (refine ⟨?_, ?_⟩ <;> simp [go_sem]; done) | (with_reducible refine own_alloc ?_))); obtain ⟨qb10, f_qb10⟩ := o_qb10; have o_qb11 : Own (w1) (w.heap.size + 1) 1 (.int .i64 y.2) := (by repeat (first | (with_reducible assumption) | (with_reducible refine own_drew ?_) | (with_reducible refine own_drewN ?_) | (with_reducible refine own_kept (by assumption) ?_) | (refine ⟨?_, ?_⟩ <;> simp [go_sem]; done) | (with_reducible refine own_alloc ?_))); obtain ⟨qb11, f_qb11⟩ := o_qb11
        go_wp2_with fail
        refine (l04Ok_any y _).mono ?_
        rintro e w2 ⟨rfl, hb2⟩
        have hs2 : _ ≤ w2.heap.size := hb2.size
        try simp at hs2
        rw [B2.out]
        have o_qa20 : Own (w2) (w.heap.size) 0 (.int .i64 x.1) := (by repeat (first | (with_reducible assumption) | (with_reducible refine own_drew ?_) | (with_reducible refine own_drewN ?_) | (with_reducible refine own_kept (by assumption) ?_) | (refine ⟨?_, ?_⟩ <;> simp [go_sem]; done) | (with_reducible refine own_alloc ?_))); obtain ⟨qa20, f_qa20⟩ := o_qa20; have o_qa21 : Own (w2) (w.heap.size) 1 (.int .i64 x.2) := (by repeat (first | (with_reducible assumption) | (with_reducible refine own_drew ?_) | (with_reducible refine own_drewN ?_) | (with_reducible refine own_kept (by assumption) ?_) | (refine ⟨?_, ?_⟩ <;> simp [go_sem]; done) | (with_reducible refine own_alloc ?_))); obtain ⟨qa21, f_qa21⟩ := o_qa21
        have o_qb20 : Own (w2) (w.heap.size + 1) 0 (.int .i64 y.1) := (by repeat (first | (with_reducible assumption) | (with_reducible refine own_drew ?_) | (with_reducible refine own_drewN ?_) | (with_reducible refine own_kept (by assumption) ?_) | (refine ⟨?_, ?_⟩ <;> simp [go_sem]; done) | (with_reducible refine own_alloc ?_))); obtain ⟨qb20, f_qb20⟩ := o_qb20; have o_qb21 : Own (w2) (w.heap.size + 1) 1 (.int .i64 y.2) := (by repeat (first | (with_reducible assumption) | (with_reducible refine own_drew ?_) | (with_reducible refine own_drewN ?_) | (with_reducible refine own_kept (by assumption) ?_) | (refine ⟨?_, ?_⟩ <;> simp [go_sem]; done) | (with_reducible refine own_alloc ?_))); obtain ⟨qb21, f_qb21⟩ := o_qb21
        go_wp2
        go_ret
        exact ⟨(by first | (rw [E.out]; done) | (rw [E.out]; rfl) | (simp [E.out]; done)), (by repeat (first | exact Below.refl _ _ | refine Below.drew ?_ | refine below_dn ?_ _ | refine Below.setCell ?_ (by first | omega | (simp; done) | (simp; omega)) _ | refine Below.alloc ?_ (by first | omega | (simp; done) | (simp; omega)) _ | refine Below.trans ?_ (Below.mono (by assumption) (by first | omega | (simp; done) | (simp; omega)))))⟩
      · by_cases q : y.2 ≤ x.1
        · have E := Lib.hid ((G.trans (if_neg p)).trans (if_pos q))
          clear G
          go_enter Try.func101, Try.ntmps101
          go_wp2_with fail
          refine (l04Ok_any x _).mono ?_
          rintro e w1 ⟨rfl, hb1⟩
          have hs1 : _ ≤ w1.heap.size := hb1.size
          try simp at hs1
          rw [B1.out]
          have o_qa10 : Own (w1) (w.heap.size) 0 (.int .i64 x.1) := (by repeat (first | (with_reducible assumption) | (with_reducible refine own_drew ?_) | (with_reducible refine own_drewN ?_) | (with_reducible refine own_kept (by assumption) ?_) | (refine ⟨?_, ?_⟩ <;> simp [go_sem]; done) | (with_reducible refine own_alloc ?_))); obtain ⟨qa10, f_qa10⟩ := o_qa10; have o_qa11 : Own (w1) (w.heap.size) 1 (.int .i64 x.2) := (by repeat (first | (with_reducible assumption) | (with_reducible refine own_drew ?_) | (with_reducible refine own_drewN ?_) | (with_reducible refine own_kept (by assumption) ?_) | (refine ⟨?_, ?_⟩ <;> simp [go_sem]; done) | (with_reducible refine own_alloc ?_))); obtain ⟨qa11, f_qa11⟩ := o_qa11
          have o_qb10 : Own (w1) (w.heap.size + 1) 0 (.int .i64 y.1) := (by repeat (first | (with_reducible assumption) | (with_reducible refine own_drew ?_) | (with_reducible refine own_drewN ?_) | (with_reducible refine own_kept (by assumption) ?_) | (refine ⟨?_, ?_⟩ <;> simp [go_sem]; done) | (with_reducible refine own_alloc ?_))); obtain ⟨qb10, f_qb10⟩ := o_qb10; have o_qb11 : Own (w1) (w.heap.size + 1) 1 (.int .i64 y.2) := (by repeat (first | (with_reducible assumption) | (with_reducible refine own_drew ?_) | (with_reducible refine own_drewN ?_) | (with_reducible refine own_kept (by assumption) ?_) | (refine ⟨?_, ?_⟩ <;> simp [go_sem]; done) | (with_reducible refine own_alloc ?_))); obtain ⟨qb11, f_qb11⟩ := o_qb11
          go_wp2_with fail
          refine (l04Ok_any y _).mono ?_
          rintro e w2 ⟨rfl, hb2⟩
          have hs2 : _ ≤ w2.heap.size := hb2.size
          try simp at hs2
          rw [B2.out]
          have o_qa20 : Own (w2) (w.heap.size) 0 (.int .i64 x.1) := (by repeat (first | (with_reducible assumption) | (with_reducible refine own_drew ?_) | (with_reducible refine own_drewN ?_) | (with_reducible refine own_kept (by assumption) ?_) | (refine ⟨?_, ?_⟩ <;> simp [go_sem]; done) | (with_reducible refine own_alloc ?_))); obtain ⟨qa20, f_qa20⟩ := o_qa20; have o_qa21 : Own (w2) (w.heap.size) 1 (.int .i64 x.2) := (by repeat (first | (with_reducible assumption) | (with_reducible refine own_drew ?_) | (with_reducible refine own_drewN ?_) | (with_reducible refine own_kept (by assumption) ?_) | (refine ⟨?_, ?_⟩ <;> simp [go_sem]; done) | (with_reducible refine own_alloc ?_))); obtain ⟨qa21, f_qa21⟩ := o_qa21
          have o_qb20 : Own (w2) (w.heap.size + 1) 0 (.int .i64 y.1) := (by repeat (first | (with_reducible assumption) | (with_reducible refine own_drew ?_) | (with_reducible refine own_drewN ?_) | (with_reducible refine own_kept (by assumption) ?_) | (refine ⟨?_, ?_⟩ <;> simp [go_sem]; done) | (with_reducible refine own_alloc ?_))); obtain ⟨qb20, f_qb20⟩ := o_qb20; have o_qb21 : Own (w2) (w.heap.size + 1) 1 (.int .i64 y.2) := (by repeat (first | (with_reducible assumption) | (with_reducible refine own_drew ?_) | (with_reducible refine own_drewN ?_) | (with_reducible refine own_kept (by assumption) ?_) | (refine ⟨?_, ?_⟩ <;> simp [go_sem]; done) | (with_reducible refine own_alloc ?_))); obtain ⟨qb21, f_qb21⟩ := o_qb21
          go_wp2
          go_ret
          exact ⟨(by first | (rw [E.out]; done) | (rw [E.out]; rfl) | (simp [E.out]; done)), (by repeat (first | exact Below.refl _ _ | refine Below.drew ?_ | refine below_dn ?_ _ | refine Below.setCell ?_ (by first | omega | (simp; done) | (simp; omega)) _ | refine Below.alloc ?_ (by first | omega | (simp; done) | (simp; omega)) _ | refine Below.trans ?_ (Below.mono (by assumption) (by first | omega | (simp; done) | (simp; omega)))))⟩
        · have E := Lib.hid ((G.trans (if_neg p)).trans (if_neg q))
          clear G
          go_enter Try.func101, Try.ntmps101
          go_wp2_with fail
          refine (l04Ok_any x _).mono ?_
          rintro e w1 ⟨rfl, hb1⟩
          have hs1 : _ ≤ w1.heap.size := hb1.size
          try simp at hs1
          rw [B1.out]
          have o_qa10 : Own (w1) (w.heap.size) 0 (.int .i64 x.1) := (by repeat (first | (with_reducible assumption) | (with_reducible refine own_drew ?_) | (with_reducible refine own_drewN ?_) | (with_reducible refine own_kept (by assumption) ?_) | (refine ⟨?_, ?_⟩ <;> simp [go_sem]; done) | (with_reducible refine own_alloc ?_))); obtain ⟨qa10, f_qa10⟩ := o_qa10; have o_qa11 : Own (w1) (w.heap.size) 1 (.int .i64 x.2) := (by repeat (first | (with_reducible assumption) | (with_reducible refine own_drew ?_) | (with_reducible refine own_drewN ?_) | (with_reducible refine own_kept (by assumption) ?_) | (refine ⟨?_, ?_⟩ <;> simp [go_sem]; done) | (with_reducible refine own_alloc ?_))); obtain ⟨qa11, f_qa11⟩ := o_qa11
          have o_qb10 : Own (w1) (w.heap.size + 1) 0 (.int .i64 y.1) := (by repeat (first | (with_reducible assumption) | (with_reducible refine own_drew ?_) | (with_reducible refine own_drewN ?_) | (with_reducible refine own_kept (by assumption) ?_) | (refine ⟨?_, ?_⟩ <;> simp [go_sem]; done) | (with_reducible refine own_alloc ?_))); obtain ⟨qb10, f_qb10⟩ := o_qb10; have o_qb11 : Own (w1) (w.heap.size + 1) 1 (.int .i64 y.2) := (by repeat (first | (with_reducible assumption) | (with_reducible refine own_drew ?_) | (with_reducible refine own_drewN ?_) | (with_reducible refine own_kept (by assumption) ?_) | (refine ⟨?_, ?_⟩ <;> simp [go_sem]; done) | (with_reducible refine own_alloc ?_))); obtain ⟨qb11, f_qb11⟩ := o_qb11
          go_wp2_with fail
          refine (l04Ok_any y _).mono ?_
          rintro e w2 ⟨rfl, hb2⟩
          have hs2 : _ ≤ w2.heap.size := hb2.size
          try simp at hs2
          rw [B2.out]
          have o_qa20 : Own (w2) (w.heap.size) 0 (.int .i64 x.1) := (by repeat (first | (with_reducible assumption) | (with_reducible refine own_drew ?_) | (with_reducible refine own_drewN ?_) | (with_reducible refine own_kept (by assumption) ?_) | (refine ⟨?_, ?_⟩ <;> simp [go_sem]; done) | (with_reducible refine own_alloc ?_))); obtain ⟨qa20, f_qa20⟩ := o_qa20; have o_qa21 : Own (w2) (w.heap.size) 1 (.int .i64 x.2) := (by repeat (first | (with_reducible assumption) | (with_reducible refine own_drew ?_) | (with_reducible refine own_drewN ?_) | (with_reducible refine own_kept (by assumption) ?_) | (refine ⟨?_, ?_⟩ <;> simp [go_sem]; done) | (with_reducible refine own_alloc ?_))); obtain ⟨qa21, f_qa21⟩ := o_qa21
          have o_qb20 : Own (w2) (w.heap.size + 1) 0 (.int .i64 y.1) := (by repeat (first | (with_reducible assumption) | (with_reducible refine own_drew ?_) | (with_reducible refine own_drewN ?_) | (with_reducible refine own_kept (by assumption) ?_) | (refine ⟨?_, ?_⟩ <;> simp [go_sem]; done) | (with_reducible refine own_alloc ?_))); obtain ⟨qb20, f_qb20⟩ := o_qb20; have o_qb21 : Own (w2) (w.heap.size + 1) 1 (.int .i64 y.2) := (by repeat (first | (with_reducible assumption) | (with_reducible refine own_drew ?_) | (with_reducible refine own_drewN ?_) | (with_reducible refine own_kept (by assumption) ?_) | (refine ⟨?_, ?_⟩ <;> simp [go_sem]; done) | (with_reducible refine own_alloc ?_))); obtain ⟨qb21, f_qb21⟩ := o_qb21
          go_wp2
          go_ret
          exact ⟨(by first | (rw [E.out]; done) | (rw [E.out]; rfl) | (simp [E.out]; done)), (by repeat (first | exact Below.refl _ _ | refine Below.drew ?_ | refine below_dn ?_ _ | refine Below.setCell ?_ (by first | omega | (simp; done) | (simp; omega)) _ | refine Below.alloc ?_ (by first | omega | (simp; done) | (simp; omega)) _ | refine Below.trans ?_ (Below.mono (by assumption) (by first | omega | (simp; done) | (simp; omega)))))⟩
    · have B2 := Lib.hid (bnd_no h2)
      have E := Lib.hid (show lesI x y = 2 from if_neg (fun k => h2 k.2))
      clear h1 h2
      go_enter Try.func101, Try.ntmps101
      go_wp2_with fail
      refine (l04Ok_any x _).mono ?_
      rintro e w1 ⟨rfl, hb1⟩
      have hs1 : _ ≤ w1.heap.size := hb1.size
      try simp at hs1
      rw [B1.out]
      have o_qa10 : Own (w1) (w.heap.size) 0 (.int .i64 x.1) := (by repeat (first | (with_reducible assumption) | (with_reducible refine own_drew ?_) | (with_reducible refine own_drewN ?_) | (with_reducible refine own_kept (by assumption) ?_) | (refine ⟨?_, ?_⟩ <;> simp [go_sem]; done) | (with_reducible refine own_alloc ?_))); obtain ⟨qa10, f_qa10⟩ := o_qa10; have o_qa11 : Own (w1) (w.heap.size) 1 (.int .i64 x.2) := (by repeat (first | (with_reducible assumption) | (with_reducible refine own_drew ?_) | (with_reducible refine own_drewN ?_) | (with_reducible refine own_kept (by assumption) ?_) | (refine ⟨?_, ?_⟩ <;> simp [go_sem]; done) | (with_reducible refine own_alloc ?_))); obtain ⟨qa11, f_qa11⟩ := o_qa11
      have o_qb10 : Own (w1) (w.heap.size + 1) 0 (.int .i64 y.1) := (by repeat (first | (with_reducible assumption) | (with_reducible refine own_drew ?_) | (with_reducible refine own_drewN ?_) | (with_reducible refine own_kept (by assumption) ?_) | (refine ⟨?_, ?_⟩ <;> simp [go_sem]; done) | (with_reducible refine own_alloc ?_))); obtain ⟨qb10, f_qb10⟩ := o_qb10; have o_qb11 : Own (w1) (w.heap.size + 1) 1 (.int .i64 y.2) := (by repeat (first | (with_reducible assumption) | (with_reducible refine own_drew ?_) | (with_reducible refine own_drewN ?_) | (with_reducible refine own_kept (by assumption) ?_) | (refine ⟨?_, ?_⟩ <;> simp [go_sem]; done) | (with_reducible refine own_alloc ?_))); obtain ⟨qb11, f_qb11⟩ := o_qb11
      go_wp2_with fail
      refine (l04Ok_any y _).mono ?_
      rintro e w2 ⟨rfl, hb2⟩
      have hs2 : _ ≤ w2.heap.size := hb2.size
      try simp at hs2
      rw [B2.out]
      have o_qa20 : Own (w2) (w.heap.size) 0 (.int .i64 x.1) := (by repeat (first | (with_reducible assumption) | (with_reducible refine own_drew ?_) | (with_reducible refine own_drewN ?_) | (with_reducible refine own_kept (by assumption) ?_) | (refine ⟨?_, ?_⟩ <;> simp [go_sem]; done) | (with_reducible refine own_alloc ?_))); obtain ⟨qa20, f_qa20⟩ := o_qa20; have o_qa21 : Own (w2) (w.heap.size) 1 (.int .i64 x.2) := (by repeat (first | (with_reducible assumption) | (with_reducible refine own_drew ?_) | (with_reducible refine own_drewN ?_) | (with_reducible refine own_kept (by assumption) ?_) | (refine ⟨?_, ?_⟩ <;> simp [go_sem]; done) | (with_reducible refine own_alloc ?_))); obtain ⟨qa21, f_qa21⟩ := o_qa21
      have o_qb20 : Own (w2) (w.heap.size + 1) 0 (.int .i64 y.1) := (by repeat (first | (with_reducible assumption) | (with_reducible refine own_drew ?_) | (with_reducible refine own_drewN ?_) | (with_reducible refine own_kept (by assumption) ?_) | (refine ⟨?_, ?_⟩ <;> simp [go_sem]; done) | (with_reducible refine own_alloc ?_))); obtain ⟨qb20, f_qb20⟩ := o_qb20; have o_qb21 : Own (w2) (w.heap.size + 1) 1 (.int .i64 y.2) := (by repeat (first | (with_reducible assumption) | (with_reducible refine own_drew ?_) | (with_reducible refine own_drewN ?_) | (with_reducible refine own_kept (by assumption) ?_) | (refine ⟨?_, ?_⟩ <;> simp [go_sem]; done) | (with_reducible refine own_alloc ?_))); obtain ⟨qb21, f_qb21⟩ := o_qb21
      go_wp2
      go_ret
      exact ⟨(by first | (rw [E.out]; done) | (rw [E.out]; rfl) | (simp [E.out]; done)), (by repeat (first | exact Below.refl _ _ | refine Below.drew ?_ | refine below_dn ?_ _ | refine Below.setCell ?_ (by first | omega | (simp; done) | (simp; omega)) _ | refine Below.alloc ?_ (by first | omega | (simp; done) | (simp; omega)) _ | refine Below.trans ?_ (Below.mono (by assumption) (by first | omega | (simp; done) | (simp; omega)))))⟩
  · have B1 := Lib.hid (bnd_no h1)
    have E := Lib.hid (show lesI x y = 2 from if_neg (fun k => h1 k.1))
    clear h1
    go_enter Try.func101, Try.ntmps101
    go_wp2_with fail
    refine (l04Ok_any x _).mono ?_
    rintro e w1 ⟨rfl, hb1⟩
    have hs1 : _ ≤ w1.heap.size := hb1.size
    try simp at hs1
    rw [B1.out]
    have o_qa10 : Own (w1) (w.heap.size) 0 (.int .i64 x.1) := (by repeat (first | (with_reducible assumption) | (with_reducible refine own_drew ?_) | (with_reducible refine own_drewN ?_) | (with_reducible refine own_kept (by assumption) ?_) | (refine ⟨?_, ?_⟩ <;> simp [go_sem]; done) | (with_reducible refine own_alloc ?_))); obtain ⟨qa10, f_qa10⟩ := o_qa10; have o_qa11 : Own (w1) (w.heap.size) 1 (.int .i64 x.2) := (by repeat (first | (with_reducible assumption) | (with_reducible refine own_drew ?_) | (with_reducible refine own_drewN ?_) | (with_reducible refine own_kept (by assumption) ?_) | (refine ⟨?_, ?_⟩ <;> simp [go_sem]; done) | (with_reducible refine own_alloc ?_))); obtain ⟨qa11, f_qa11⟩ := o_qa11
    have o_qb10 : Own (w1) (w.heap.size + 1) 0 (.int .i64 y.1) := (by repeat (first | (with_reducible assumption) | (with_reducible refine own_drew ?_) | (with_reducible refine own_drewN ?_) | (with_reducible refine own_kept (by assumption) ?_) | (refine ⟨?_, ?_⟩ <;> simp [go_sem]; done) | (with_reducible refine own_alloc ?_))); obtain ⟨qb10, f_qb10⟩ := o_qb10; have o_qb11 : Own (w1) (w.heap.size + 1) 1 (.int .i64 y.2) := (by repeat (first | (with_reducible assumption) | (with_reducible refine own_drew ?_) | (with_reducible refine own_drewN ?_) | (with_reducible refine own_kept (by assumption) ?_) | (refine ⟨?_, ?_⟩ <;> simp [go_sem]; done) | (with_reducible refine own_alloc ?_))); obtain ⟨qb11, f_qb11⟩ := o_qb11
    go_wp2
    go_ret
    exact ⟨(by first | (rw [E.out]; done) | (rw [E.out]; rfl) | (simp [E.out]; done)), (by repeat (first | exact Below.refl _ _ | refine Below.drew ?_ | refine below_dn ?_ _ | refine Below.setCell ?_ (by first | omega | (simp; done) | (simp; omega)) _ | refine Below.alloc ?_ (by first | omega | (simp; done) | (simp; omega)) _ | refine Below.trans ?_ (Below.mono (by assumption) (by first | omega | (simp; done) | (simp; omega)))))⟩
theorem LessI_any (x y : Iv) (w : World) : Calls Try.prog 102 #[.agg #[.int .i64 x.1, .int .i64 x.2], .agg #[.int .i64 y.1, .int .i64 y.2]] w fun e w' =>
    e = .returned (.int .i64 (lesI x y)) ∧ Below w.heap.size w w' := by
  by_cases h1 : Bnd x
  · have B1 := Lib.hid (bnd_yes h1)
    by_cases h2 : Bnd y
    · have B2 := Lib.hid (bnd_yes h2)
      have G := show lesI x y = (if x.2 < y.1 then 1 else if y.2 ≤ x.1 then 0 else 2) from if_pos ⟨h1, h2⟩
      clear h1 h2
      by_cases p : x.2 < y.1
      · have E := Lib.hid (G.trans (if_pos p))
        clear G
        go_enter Try.func102, Try.ntmps102
        go_wp2_with fail
        refine (areBounded2 x y _ _ (by simp [go_sem]) (by simp [go_sem]) (by simp [go_sem]) (by simp [go_sem])).mono ?_
        rintro e w1 ⟨rfl, hb1⟩
        have hs1 : _ ≤ w1.heap.size := hb1.size
        try simp at hs1
        rw [B1.out, B2.out]
        have o_qa10 : Own (w1) (w.heap.size) 0 (.int .i64 x.1) := (by repeat (first | (with_reducible assumption) | (with_reducible refine own_drew ?_) | (with_reducible refine own_drewN ?_) | (with_reducible refine own_kept (by assumption) ?_) | (refine ⟨?_, ?_⟩ <;> simp [go_sem]; done) | (with_reducible refine own_alloc ?_))); obtain ⟨qa10, f_qa10⟩ := o_qa10; have o_qa11 : Own (w1) (w.heap.size) 1 (.int .i64 x.2) := (by repeat (first | (with_reducible assumption) | (with_reducible refine own_drew ?_) | (with_reducible refine own_drewN ?_) | (with_reducible refine own_kept (by assumption) ?_) | (refine ⟨?_, ?_⟩ <;> simp [go_sem]; done) | (with_reducible refine own_alloc ?_))); obtain ⟨qa11, f_qa11⟩ := o_qa11
        have o_qb10 : Own (w1) (w.heap.size + 1) 0 (.int .i64 y.1) := (by repeat (first | (with_reducible assumption) | (with_reducible refine own_drew ?_) | (with_reducible refine own_drewN ?_) | (with_reducible refine own_kept (by assumption) ?_) | (refine ⟨?_, ?_⟩ <;> simp [go_sem]; done) | (with_reducible refine own_alloc ?_))); obtain ⟨qb10, f_qb10⟩ := o_qb10; have o_qb11 : Own (w1) (w.heap.size + 1) 1 (.int .i64 y.2) := (by repeat (first | (with_reducible assumption) | (with_reducible refine own_drew ?_) | (with_reducible refine own_drewN ?_) | (with_reducible refine own_kept (by assumption) ?_) | (refine ⟨?_, ?_⟩ <;> simp [go_sem]; done) | (with_reducible refine own_alloc ?_))); obtain ⟨qb11, f_qb11⟩ := o_qb11
        go_wp2
        go_ret
        exact ⟨(by first | (rw [E.out]; done) | (rw [E.out]; rfl) | (simp [E.out]; done)), (by repeat (first | exact Below.refl _ _ | refine Below.drew ?_ | refine below_dn ?_ _ | refine Below.setCell ?_ (by first | omega | (simp; done) | (simp; omega)) _ | refine Below.alloc ?_ (by first | omega | (simp; done) | (simp; omega)) _ | refine Below.trans ?_ (Below.mono (by assumption) (by first | omega | (simp; done) | (simp; omega)))))⟩
      · by_cases q : y.2 ≤ x.1
        · have E := Lib.hid ((G.trans (if_neg p)).trans (if_pos q))
          clear G
          go_enter Try.func102, Try.ntmps102
          go_wp2_with fail
          refine (areBounded2 x y _ _ (by simp [go_sem]) (by simp [go_sem]) (by simp [go_sem]) (by simp [go_sem])).mono ?_
          rintro e w1 ⟨rfl, hb1⟩
          have hs1 : _ ≤ w1.heap.size := hb1.size
          try simp at hs1
          rw [B1.out, B2.out]
          have o_qa10 : Own (w1) (w.heap.size) 0 (.int .i64 x.1) := (by repeat (first | (with_reducible assumption) | (with_reducible refine own_drew ?_) | (with_reducible refine own_drewN ?_) | (with_reducible refine own_kept (by assumption) ?_) | (refine ⟨?_, ?_⟩ <;> simp [go_sem]; done) | (with_reducible refine own_alloc ?_))); obtain ⟨qa10, f_qa10⟩ := o_qa10; have o_qa11 : Own (w1) (w.heap.size) 1 (.int .i64 x.2) := (by repeat (first | (with_reducible assumption) | (with_reducible refine own_drew ?_) | (with_reducible refine own_drewN ?_) | (with_reducible refine own_kept (by assumption) ?_) | (refine ⟨?_, ?_⟩ <;> simp [go_sem]; done) | (with_reducible refine own_alloc ?_))); obtain ⟨qa11, f_qa11⟩ := o_qa11
          have o_qb10 : Own (w1) (w.heap.size + 1) 0 (.int .i64 y.1) := (by repeat (first | (with_reducible assumption) | (with_reducible refine own_drew ?_) | (with_reducible refine own_drewN ?_) | (with_reducible refine own_kept (by assumption) ?_) | (refine ⟨?_, ?_⟩ <;> simp [go_sem]; done) | (with_reducible refine own_alloc ?_))); obtain ⟨qb10, f_qb10⟩ := o_qb10; have o_qb11 : Own (w1) (w.heap.size + 1) 1 (.int .i64 y.2) := (by repeat (first | (with_reducible assumption) | (with_reducible refine own_drew ?_) | (with_reducible refine own_drewN ?_) | (with_reducible refine own_kept (by assumption) ?_) | (refine ⟨?_, ?_⟩ <;> simp [go_sem]; done) | (with_reducible refine own_alloc ?_))); obtain ⟨qb11, f_qb11⟩ := o_qb11
          go_wp2
          go_ret
          exact ⟨(by first | (rw [E.out]; done) | (rw [E.out]; rfl) | (simp [E.out]; done)), (by repeat (first | exact Below.refl _ _ | refine Below.drew ?_ | refine below_dn ?_ _ | refine Below.setCell ?_ (by first | omega | (simp; done) | (simp; omega)) _ | refine Below.alloc ?_ (by first | omega | (simp; done) | (simp; omega)) _ | refine Below.trans ?_ (Below.mono (by assumption) (by first | omega | (simp; done) | (simp; omega)))))⟩
        · have E := Lib.hid ((G.trans (if_neg p)).trans (if_neg q))
          clear G
          go_enter Try.func102, Try.ntmps102
          go_wp2_with fail
          refine (areBounded2 x y _ _ (by simp [go_sem]) (by simp [go_sem]) (by simp [go_sem]) (by simp [go_sem])).mono ?_
          rintro e w1 ⟨rfl, hb1⟩
          have hs1 : _ ≤ w1.heap.size := hb1.size
          try simp at hs1
          rw [B1.out, B2.out]
          have o_qa10 : Own (w1) (w.heap.size) 0 (.int .i64 x.1) := (by repeat (first | (with_reducible assumption) | (with_reducible refine own_drew ?_) | (with_reducible refine own_drewN ?_) | (with_reducible refine own_kept (by assumption) ?_) | (refine ⟨?_, ?_⟩ <;> simp [go_sem]; done) | (with_reducible refine own_alloc ?_))); obtain ⟨qa10, f_qa10⟩ := o_qa10; have o_qa11 : Own (w1) (w.heap.size) 1 (.int .i64 x.2) := (by repeat (first | (with_reducible assumption) | (with_reducible refine own_drew ?_) | (with_reducible refine own_drewN ?_) | (with_reducible refine own_kept (by assumption) ?_) | (refine ⟨?_, ?_⟩ <;> simp [go_sem]; done) | (with_reducible refine own_alloc ?_))); obtain ⟨qa11, f_qa11⟩ := o_qa11
          have o_qb10 : Own (w1) (w.heap.size + 1) 0 (.int .i64 y.1) := (by repeat (first | (with_reducible assumption) | (with_reducible refine own_drew ?_) | (with_reducible refine own_drewN ?_) | (with_reducible refine own_kept (by assumption) ?_) | (refine ⟨?_, ?_⟩ <;> simp [go_sem]; done) | (with_reducible refine own_alloc ?_))); obtain ⟨qb10, f_qb10⟩ := o_qb10; have o_qb11 : Own (w1) (w.heap.size + 1) 1 (.int .i64 y.2) := (by repeat (first | (with_reducible assumption) | (with_reducible refine own_drew ?_) | (with_reducible refine own_drewN ?_) | (with_reducible refine own_kept (by assumption) ?_) | (refine ⟨?_, ?_⟩ <;> simp [go_sem]; done) | (with_reducible refine own_alloc ?_))); obtain ⟨qb11, f_qb11⟩ := o_qb11
          go_wp2
          go_ret
          exact ⟨(by first | (rw [E.out]; done) | (rw [E.out]; rfl) | (simp [E.out]; done)), (by repeat (first | exact Below.refl _ _ | refine Below.drew ?_ | refine below_dn ?_ _ | refine Below.setCell ?_ (by first | omega | (simp; done) | (simp; omega)) _ | refine Below.alloc ?_ (by first | omega | (simp; done) | (simp; omega)) _ | refine Below.trans ?_ (Below.mono (by assumption) (by first | omega | (simp; done) | (simp; omega)))))⟩
    · have B2 := Lib.hid (bnd_no h2)
      have E := Lib.hid (show lesI x y = 2 from if_neg (fun k => h2 k.2))
      clear h1 h2
      go_enter Try.func102, Try.ntmps102
      go_wp2_with fail
      refine (areBounded2 x y _ _ (by simp [go_sem]) (by simp [go_sem]) (by simp [go_sem]) (by simp [go_sem])).mono ?_
      rintro e w1 ⟨rfl, hb1⟩
      have hs1 : _ ≤ w1.heap.size := hb1.size
      try simp at hs1
      rw [B1.out, B2.out]
      have o_qa10 : Own (w1) (w.heap.size) 0 (.int .i64 x.1) := (by repeat (first | (with_reducible assumption) | (with_reducible refine own_drew ?_) | (with_reducible refine own_drewN ?_) | (with_reducible refine own_kept (by assumption) ?_) | (refine ⟨?_, ?_⟩ <;> simp [go_sem]; done) | (with_reducible refine own_alloc ?_))); obtain ⟨qa10, f_qa10⟩ := o_qa10; have o_qa11 : Own (w1) (w.heap.size) 1 (.int .i64 x.2) := (by repeat (first | (with_reducible assumption) | (with_reducible refine own_drew ?_) | (with_reducible refine own_drewN ?_) | (with_reducible refine own_kept (by assumption) ?_) | (refine ⟨?_, ?_⟩ <;> simp [go_sem]; done) | (with_reducible refine own_alloc ?_))); obtain ⟨qa11, f_qa11⟩ := o_qa11
      have o_qb10 : Own (w1) (w.heap.size + 1) 0 (.int .i64 y.1) := (by repeat (first | (with_reducible assumption) | (with_reducible refine own_drew ?_) | (with_reducible refine own_drewN ?_) | (with_reducible refine own_kept (by assumption) ?_) | (refine ⟨?_, ?_⟩ <;> simp [go_sem]; done) | (with_reducible refine own_alloc ?_))); obtain ⟨qb10, f_qb10⟩ := o_qb10; have o_qb11 : Own (w1) (w.heap.size + 1) 1 (.int .i64 y.2) := (by repeat (first | (with_reducible assumption) | (with_reducible refine own_drew ?_) | (with_reducible refine own_drewN ?_) | (with_reducible refine own_kept (by assumption) ?_) | (refine ⟨?_, ?_⟩ <;> simp [go_sem]; done) | (with_reducible refine own_alloc ?_))); obtain ⟨qb11, f_qb11⟩ := o_qb11
      go_wp2
      go_ret
      exact ⟨(by first | (rw [E.out]; done) | (rw [E.out]; rfl) | (simp [E.out]; done)), (by repeat (first | exact Below.refl _ _ | refine Below.drew ?_ | refine below_dn ?_ _ | refine Below.setCell ?_ (by first | omega | (simp; done) | (simp; omega)) _ | refine Below.alloc ?_ (by first | omega | (simp; done) | (simp; omega)) _ | refine Below.trans ?_ (Below.mono (by assumption) (by first | omega | (simp; done) | (simp; omega)))))⟩
  · have B1 := Lib.hid (bnd_no h1)
    have E := Lib.hid (show lesI x y = 2 from if_neg (fun k => h1 k.1))
    clear h1
    go_enter Try.func102, Try.ntmps102
    go_wp2_with fail
    refine (areBounded2 x y _ _ (by simp [go_sem]) (by simp [go_sem]) (by simp [go_sem]) (by simp [go_sem])).mono ?_
    rintro e w1 ⟨rfl, hb1⟩
    have hs1 : _ ≤ w1.heap.size := hb1.size
    try simp at hs1
    rw [B1.out]
    have o_qa10 : Own (w1) (w.heap.size) 0 (.int .i64 x.1) := (by repeat (first | (with_reducible assumption) | (with_reducible refine own_drew ?_) | (with_reducible refine own_drewN ?_) | (with_reducible refine own_kept (by assumption) ?_) | (refine ⟨?_, ?_⟩ <;> simp [go_sem]; done) | (with_reducible refine own_alloc ?_))); obtain ⟨qa10, f_qa10⟩ := o_qa10; have o_qa11 : Own (w1) (w.heap.size) 1 (.int .i64 x.2) := (by repeat (first | (with_reducible assumption) | (with_reducible refine own_drew ?_) | (with_reducible refine own_drewN ?_) | (with_reducible refine own_kept (by assumption) ?_) | (refine ⟨?_, ?_⟩ <;> simp [go_sem]; done) | (with_reducible refine own_alloc ?_))); obtain ⟨qa11, f_qa11⟩ := o_qa11
    have o_qb10 : Own (w1) (w.heap.size + 1) 0 (.int .i64 y.1) := (by repeat (first | (with_reducible assumption) | (with_reducible refine own_drew ?_) | (with_reducible refine own_drewN ?_) | (with_reducible refine own_kept (by assumption) ?_) | (refine ⟨?_, ?_⟩ <;> simp [go_sem]; done) | (with_reducible refine own_alloc ?_))); obtain ⟨qb10, f_qb10⟩ := o_qb10; have o_qb11 : Own (w1) (w.heap.size + 1) 1 (.int .i64 y.2) := (by repeat (first | (with_reducible assumption) | (with_reducible refine own_drew ?_) | (with_reducible refine own_drewN ?_) | (with_reducible refine own_kept (by assumption) ?_) | (refine ⟨?_, ?_⟩ <;> simp [go_sem]; done) | (with_reducible refine own_alloc ?_))); obtain ⟨qb11, f_qb11⟩ := o_qb11
    go_wp2
    go_ret
    exact ⟨(by first | (rw [E.out]; done) | (rw [E.out]; rfl) | (simp [E.out]; done)), (by repeat (first | exact Below.refl _ _ | refine Below.drew ?_ | refine below_dn ?_ _ | refine Below.setCell ?_ (by first | omega | (simp; done) | (simp; omega)) _ | refine Below.alloc ?_ (by first | omega | (simp; done) | (simp; omega)) _ | refine Below.trans ?_ (Below.mono (by assumption) (by first | omega | (simp; done) | (simp; omega)))))⟩
end Go.Proofs.Ytfikgbamnlmglaa
