/- Contracts of quarter turns, program and model. Conditions: numbers are int64. -/
import Derived.Test.YtnhpacaidcjaoaaGreatDoorTrA
import Derived.Outline
namespace Go.Proofs.YtnhpacaidcjaoaaGreatDoor
open Go.ChangeShapes Go.WideShapes Go.ChangeAt Go.RowKit
set_option linter.unusedVariables false
set_option maxRecDepth 100000
set_option linter.unusedSimpArgs false
set_option maxHeartbeats 1000000
theorem isAngle_any (n : Int) (w : World) : Calls Tryz.prog 119 #[.int .i64 n] w fun e w' =>
    e = .returned (.bool (ang n)) ∧ Below w.heap.size w w' := by
  by_cases a : -1099511627776 ≤ n
  · by_cases b : n ≤ 1099511627776
    · have E := Lib.hid (show ang n = true from decide_eq_true ⟨a, b⟩)
      go_enter Tryz.func119, Tryz.ntmps119
      go_wp2
      go_ret
      exact ⟨(by first | (rw [E.out]; done) | (rw [E.out]; rfl) | (simp [E.out]; done)), (by repeat (first | exact Below.refl _ _ | refine Below.drew ?_ | refine below_dn ?_ _ | refine Below.setCell ?_ (by first | omega | (simp; done) | (simp; omega)) _ | refine Below.alloc ?_ (by first | omega | (simp; done) | (simp; omega)) _ | refine Below.trans ?_ (Below.mono (by assumption) (by first | omega | (simp; done) | (simp; omega)))))⟩
    · have E := Lib.hid (show ang n = false from decide_eq_false (fun k => b k.2))
      have c : ¬ n ≤ 1099511627776 := b
      clear b
      go_enter Tryz.func119, Tryz.ntmps119
      go_wp2
      go_ret
      exact ⟨(by first | (rw [E.out]; done) | (rw [E.out]; rfl) | (simp [E.out]; done)), (by repeat (first | exact Below.refl _ _ | refine Below.drew ?_ | refine below_dn ?_ _ | refine Below.setCell ?_ (by first | omega | (simp; done) | (simp; omega)) _ | refine Below.alloc ?_ (by first | omega | (simp; done) | (simp; omega)) _ | refine Below.trans ?_ (Below.mono (by assumption) (by first | omega | (simp; done) | (simp; omega)))))⟩
  · have E := Lib.hid (show ang n = false from decide_eq_false (fun k => a k.1))
    go_enter Tryz.func119, Tryz.ntmps119
    go_wp2
    go_ret
    exact ⟨(by first | (rw [E.out]; done) | (rw [E.out]; rfl) | (simp [E.out]; done)), (by repeat (first | exact Below.refl _ _ | refine Below.drew ?_ | refine below_dn ?_ _ | refine Below.setCell ?_ (by first | omega | (simp; done) | (simp; omega)) _ | refine Below.alloc ?_ (by first | omega | (simp; done) | (simp; omega)) _ | refine Below.trans ?_ (Below.mono (by assumption) (by first | omega | (simp; done) | (simp; omega)))))⟩
theorem l06Angle_any (n : Int) (w : World) : Calls Tryz.prog 116 #[.int .i64 n] w fun e w' =>
    e = .returned (.bool (ang n)) ∧ Below w.heap.size w w' := by
  by_cases a : -1099511627776 ≤ n ∧ n ≤ 1099511627776
  · have E := Lib.hid (show ang n = true from decide_eq_true a)
    obtain ⟨a0, a1⟩ := a
    go_enter Tryz.func116, Tryz.ntmps116
    go_wp2_with fail
    refine (l00In_yes n (-1099511627776) 1099511627776 a0 a1 _).mono ?_
    rintro e w0 ⟨rfl, rfl⟩
    go_wp2
    go_ret
    exact ⟨(by first | (rw [E.out]; done) | (rw [E.out]; rfl) | (simp [E.out]; done)), (by repeat (first | exact Below.refl _ _ | refine Below.drew ?_ | refine below_dn ?_ _ | refine Below.setCell ?_ (by first | omega | (simp; done) | (simp; omega)) _ | refine Below.alloc ?_ (by first | omega | (simp; done) | (simp; omega)) _ | refine Below.trans ?_ (Below.mono (by assumption) (by first | omega | (simp; done) | (simp; omega)))))⟩
  · have E := Lib.hid (show ang n = false from decide_eq_false a)
    have o : n < -1099511627776 ∨ 1099511627776 < n := by omega
    clear a
    have L := Lib.hid (fun w => l00In_no n (-1099511627776) 1099511627776 o w)
    clear o
    go_enter Tryz.func116, Tryz.ntmps116
    go_wp2_with fail
    refine (L.out _).mono ?_
    rintro e w0 ⟨rfl, rfl⟩
    go_wp2
    go_ret
    exact ⟨(by first | (rw [E.out]; done) | (rw [E.out]; rfl) | (simp [E.out]; done)), (by repeat (first | exact Below.refl _ _ | refine Below.drew ?_ | refine below_dn ?_ _ | refine Below.setCell ?_ (by first | omega | (simp; done) | (simp; omega)) _ | refine Below.alloc ?_ (by first | omega | (simp; done) | (simp; omega)) _ | refine Below.trans ?_ (Below.mono (by assumption) (by first | omega | (simp; done) | (simp; omega)))))⟩
theorem QuarterOf_any (n : Int) (hn : In64 n) (w : World) : Calls Tryz.prog 121 #[.int .i64 n] w fun e w' =>
    e = .returned (.int .i64 (qrt n)) ∧ Below w.heap.size w w' := by
  have C := Lib.hid (fun w => isAngle_any n w)
  by_cases a : Ang n
  · have B := Lib.hid (show ang n = true from decide_eq_true a)
    have E := Lib.hid (md_qrt a)
    have a2 := a
    obtain ⟨a0, a1⟩ := a2
    have M := Lib.hid (fun w => MulDivFloor_any (n + 3373259426) 1 6746518852 (by unfold In64; omega) (by unfold In64; omega) (by unfold In64; omega) w)
    clear a hn
    generalize qrt n = q at *
    go_enter Tryz.func121, Tryz.ntmps121
    go_wp2_with fail
    refine (C.out _).mono ?_
    rintro e w1 ⟨rfl, hb1⟩
    have hs1 : _ ≤ w1.heap.size := hb1.size
    try simp at hs1
    rw [B.out]
    go_wp2_with fail
    refine (M.out _).mono ?_
    rintro e w2 ⟨rfl, hb2⟩
    have hs2 : _ ≤ w2.heap.size := hb2.size
    try simp at hs2
    rw [E.out]
    go_wp2
    go_ret
    exact ⟨rfl, (by repeat (first | exact Below.refl _ _ | refine Below.drew ?_ | refine below_dn ?_ _ | refine Below.setCell ?_ (by first | omega | (simp; done) | (simp; omega)) _ | refine Below.alloc ?_ (by first | omega | (simp; done) | (simp; omega)) _ | refine Below.trans ?_ (Below.mono (by assumption) (by first | omega | (simp; done) | (simp; omega)))))⟩
  · have B := Lib.hid (show ang n = false from decide_eq_false a)
    have E := Lib.hid (show qrt n = 0 from if_neg a)
    clear a hn
    go_enter Tryz.func121, Tryz.ntmps121
    go_wp2_with fail
    refine (C.out _).mono ?_
    rintro e w1 ⟨rfl, hb1⟩
    have hs1 : _ ≤ w1.heap.size := hb1.size
    try simp at hs1
    rw [B.out]
    go_wp2
    go_ret
    exact ⟨(by first | (rw [E.out]; done) | (rw [E.out]; rfl) | (simp [E.out]; done)), (by repeat (first | exact Below.refl _ _ | refine Below.drew ?_ | refine below_dn ?_ _ | refine Below.setCell ?_ (by first | omega | (simp; done) | (simp; omega)) _ | refine Below.alloc ?_ (by first | omega | (simp; done) | (simp; omega)) _ | refine Below.trans ?_ (Below.mono (by assumption) (by first | omega | (simp; done) | (simp; omega)))))⟩
theorem l06Floor_any (a : Int) (h0 : -1096138368350 ≤ a) (h1 : a ≤ 1102884887202) (w : World) : Calls Tryz.prog 117 #[.int .i64 a, .int .i64 6746518852] w fun e w' =>
    e = .returned (.int .i64 (a / 6746518852)) ∧ Below w.heap.size w w' := by
  have e := floor_tdiv (a := a) (b := 6746518852) (by omega)
  have q : -163 ≤ a / 6746518852 ∧ a / 6746518852 ≤ 163 := by omega
  by_cases s : a.tmod 6746518852 < 0
  · rw [if_pos s] at e
    have t0 : -200 ≤ a.tdiv 6746518852 := by omega
    have t1 : a.tdiv 6746518852 ≤ 200 := by omega
    have E := Lib.hid e
    clear e q
    generalize a / 6746518852 = y at *
    go_enter Tryz.func117, Tryz.ntmps117
    go_wp2
    go_ret
    exact ⟨(by first | (rw [E.out]; done) | (rw [E.out]; rfl) | (simp [E.out]; done)), (by repeat (first | exact Below.refl _ _ | refine Below.drew ?_ | refine below_dn ?_ _ | refine Below.setCell ?_ (by first | omega | (simp; done) | (simp; omega)) _ | refine Below.alloc ?_ (by first | omega | (simp; done) | (simp; omega)) _ | refine Below.trans ?_ (Below.mono (by assumption) (by first | omega | (simp; done) | (simp; omega)))))⟩
  · rw [if_neg s] at e
    have t0 : -200 ≤ a.tdiv 6746518852 := by omega
    have t1 : a.tdiv 6746518852 ≤ 200 := by omega
    have E := Lib.hid e
    have s' : 0 ≤ a.tmod 6746518852 := by omega
    clear e q s
    generalize a / 6746518852 = y at *
    go_enter Tryz.func117, Tryz.ntmps117
    go_wp2
    go_ret
    exact ⟨(by first | (rw [E.out]; done) | (rw [E.out]; rfl) | (simp [E.out]; done)), (by repeat (first | exact Below.refl _ _ | refine Below.drew ?_ | refine below_dn ?_ _ | refine Below.setCell ?_ (by first | omega | (simp; done) | (simp; omega)) _ | refine Below.alloc ?_ (by first | omega | (simp; done) | (simp; omega)) _ | refine Below.trans ?_ (Below.mono (by assumption) (by first | omega | (simp; done) | (simp; omega)))))⟩
theorem sQuarterOf_any (n : Int) (hn : In64 n) (w : World) : Calls Tryz.prog 78 #[.int .i64 n] w fun e w' =>
    e = .returned (.int .i64 (qrt n)) ∧ Below w.heap.size w w' := by
  have C := Lib.hid (fun w => l06Angle_any n w)
  by_cases a : Ang n
  · have B := Lib.hid (show ang n = true from decide_eq_true a)
    have E := Lib.hid (show qrt n = (n + 3373259426) / 6746518852 from if_pos a)
    have a2 := a
    obtain ⟨a0, a1⟩ := a2
    have M := Lib.hid (fun w => l06Floor_any (n + 3373259426) (by omega) (by omega) w)
    clear a hn
    rw [E.out]
    clear E
    generalize (n + 3373259426) / 6746518852 = q at *
    go_enter Tryz.func78, Tryz.ntmps78
    go_wp2_with fail
    refine (C.out _).mono ?_
    rintro e w1 ⟨rfl, hb1⟩
    have hs1 : _ ≤ w1.heap.size := hb1.size
    try simp at hs1
    rw [B.out]
    go_wp2_with fail
    refine (M.out _).mono ?_
    rintro e w2 ⟨rfl, hb2⟩
    have hs2 : _ ≤ w2.heap.size := hb2.size
    try simp at hs2
    go_wp2
    go_ret
    exact ⟨rfl, (by repeat (first | exact Below.refl _ _ | refine Below.drew ?_ | refine below_dn ?_ _ | refine Below.setCell ?_ (by first | omega | (simp; done) | (simp; omega)) _ | refine Below.alloc ?_ (by first | omega | (simp; done) | (simp; omega)) _ | refine Below.trans ?_ (Below.mono (by assumption) (by first | omega | (simp; done) | (simp; omega)))))⟩
  · have B := Lib.hid (show ang n = false from decide_eq_false a)
    have E := Lib.hid (show qrt n = 0 from if_neg a)
    clear a hn
    go_enter Tryz.func78, Tryz.ntmps78
    go_wp2_with fail
    refine (C.out _).mono ?_
    rintro e w1 ⟨rfl, hb1⟩
    have hs1 : _ ≤ w1.heap.size := hb1.size
    try simp at hs1
    rw [B.out]
    go_wp2
    go_ret
    exact ⟨(by first | (rw [E.out]; done) | (rw [E.out]; rfl) | (simp [E.out]; done)), (by repeat (first | exact Below.refl _ _ | refine Below.drew ?_ | refine below_dn ?_ _ | refine Below.setCell ?_ (by first | omega | (simp; done) | (simp; omega)) _ | refine Below.alloc ?_ (by first | omega | (simp; done) | (simp; omega)) _ | refine Below.trans ?_ (Below.mono (by assumption) (by first | omega | (simp; done) | (simp; omega)))))⟩
end Go.Proofs.YtnhpacaidcjaoaaGreatDoor
