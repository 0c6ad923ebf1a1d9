/- Contracts of roots of fixes in the program. Conditions: numbers are int64. -/
import Derived.Test.YtfikgbamnlmglaaFixC
namespace Go.Proofs.Ytfikgbamnlmglaa
open Go.ChangeShapes Go.WideShapes Go.ChangeAt Go.RowKit
set_option linter.unusedVariables false
set_option maxRecDepth 100000
set_option linter.unusedSimpArgs false
set_option maxHeartbeats 1000000

theorem rt_res {a : Int} (a1 : a ≤ 1152921504606846976) : resI (decide (0 ≤ a)) (rtD a) = resI (okR a) (rtD a) ∧ resB (decide (0 ≤ a)) (rtD a) = resB (okR a) (rtD a) ∧
    resI (decide (0 ≤ a)) (rtU a) = resI (okR a) (rtU a) ∧ resB (decide (0 ≤ a)) (rtU a) = resB (okR a) (rtU a) := by
  have e : decide (0 ≤ a) = okR a := by unfold okR; rw [Bool.eq_iff_iff]; simp; omega
  rw [e]; exact ⟨rfl, rfl, rfl, rfl⟩
theorem rt_none {a : Int} (x : Int) (h : ¬ InF a) : okR a = false := decide_eq_false (fun k => h ⟨by omega, k.2⟩)
theorem rootOf_yes (a : Int) (h : InF a) (w : World) : Calls Try.prog 121 #[.int .i64 a] w fun e w' =>
    e = .returned (.agg #[.int .i64 a, .int .i64 4294967296]) ∧ Below w.heap.size w w' := by
  have O := okF_yes h
  clear h
  go_enter Try.func121, Try.ntmps121
  go_wp2_with fail
  refine (ValidFix_any a _).mono ?_
  rintro e w0 ⟨rfl, rfl⟩
  go_wp2
  exact bodyPost_ret (v := .agg #[.int .i64 a, .int .i64 4294967296]) (by simp [results, Try.results121, go_sem]) rfl ⟨rfl, (by repeat (first | exact Below.refl _ _ | refine Below.drew ?_ | refine Below.setCell ?_ (by first | omega | (simp; done) | (simp; omega)) _ | refine Below.alloc ?_ (by first | omega | (simp; done) | (simp; omega)) _ | refine Below.trans ?_ (Below.mono (by assumption) (by first | omega | (simp; done) | (simp; omega)))))⟩
theorem rootOf_no (a : Int) (h : ¬ InF a) (w : World) : Calls Try.prog 121 #[.int .i64 a] w fun e w' =>
    e = .returned (.agg #[.int .i64 (-1), .int .i64 4294967296]) ∧ Below w.heap.size w w' := by
  have O := okF_no h
  clear h
  go_enter Try.func121, Try.ntmps121
  go_wp2_with fail
  refine (ValidFix_any a _).mono ?_
  rintro e w0 ⟨rfl, rfl⟩
  go_wp2
  exact bodyPost_ret (v := .agg #[.int .i64 (-1), .int .i64 4294967296]) (by simp [results, Try.results121, go_sem]) rfl ⟨rfl, (by repeat (first | exact Below.refl _ _ | refine Below.drew ?_ | refine Below.setCell ?_ (by first | omega | (simp; done) | (simp; omega)) _ | refine Below.alloc ?_ (by first | omega | (simp; done) | (simp; omega)) _ | refine Below.trans ?_ (Below.mono (by assumption) (by first | omega | (simp; done) | (simp; omega)))))⟩
theorem SqrtDown_any (a : Int) (ha : In64 a) (w : World) : Calls Try.prog 52 #[.int .i64 a] w fun e w' =>
    e = .returned (.tuple #[.int .i64 (resI (okR a) (rtD a)), .bool (resB (okR a) (rtD a))]) ∧ Below w.heap.size w w' := by
  by_cases h : InF a
  · have R := Lib.hid (fun w => rootOf_yes a h w)
    have F := Lib.hid (fun w => fixOf_rdown a ha h.2 w)
    have E1 := Lib.hid ((rt_res h.2).1)
    have E2 := Lib.hid ((rt_res h.2).2.1)
    clear h ha
    go_enter Try.func52, Try.ntmps52
    go_wp2_with fail
    refine (R.out _).mono ?_
    rintro e w1 ⟨rfl, hb1⟩
    have hs1 : _ ≤ w1.heap.size := hb1.size
    try simp at hs1
    go_wp2_with fail
    refine (F.out _).mono ?_
    rintro e w2 ⟨rfl, hb2⟩
    have hs2 : _ ≤ w2.heap.size := hb2.size
    try simp at hs2
    go_wp2
    go_ret2
    exact ⟨(by first | (rw [E1.out, E2.out]; done) | (rw [E1.out, E2.out]; rfl) | (simp [E1.out, E2.out]; done)), (by repeat (first | exact Below.refl _ _ | refine Below.drew ?_ | refine Below.setCell ?_ (by first | omega | (simp; done) | (simp; omega)) _ | refine Below.alloc ?_ (by first | omega | (simp; done) | (simp; omega)) _ | refine Below.trans ?_ (Below.mono (by assumption) (by first | omega | (simp; done) | (simp; omega)))))⟩
  · have R := Lib.hid (fun w => rootOf_no a h w)
    have F := Lib.hid (fun w => fixOf_rdown (-1) (by unfold In64; omega) (by omega) w)
    have E := Lib.hid (res_none (v := rtD a) (rt_none 0 h))
    have E' := Lib.hid (res_none (v := rtD (-1)) (show decide (0 ≤ (-1 : Int)) = false from rfl))
    clear h ha
    go_enter Try.func52, Try.ntmps52
    go_wp2_with fail
    refine (R.out _).mono ?_
    rintro e w1 ⟨rfl, hb1⟩
    have hs1 : _ ≤ w1.heap.size := hb1.size
    try simp at hs1
    go_wp2_with fail
    refine (F.out _).mono ?_
    rintro e w2 ⟨rfl, hb2⟩
    have hs2 : _ ≤ w2.heap.size := hb2.size
    try simp at hs2
    rw [E'.out.1, E'.out.2]
    go_wp2
    go_ret2
    exact ⟨(by first | (rw [E.out.1, E.out.2]; done) | (rw [E.out.1, E.out.2]; rfl) | (simp [E.out.1, E.out.2]; done)), (by repeat (first | exact Below.refl _ _ | refine Below.drew ?_ | refine Below.setCell ?_ (by first | omega | (simp; done) | (simp; omega)) _ | refine Below.alloc ?_ (by first | omega | (simp; done) | (simp; omega)) _ | refine Below.trans ?_ (Below.mono (by assumption) (by first | omega | (simp; done) | (simp; omega)))))⟩
theorem SqrtUp_any (a : Int) (ha : In64 a) (w : World) : Calls Try.prog 54 #[.int .i64 a] w fun e w' =>
    e = .returned (.tuple #[.int .i64 (resI (okR a) (rtU a)), .bool (resB (okR a) (rtU a))]) ∧ Below w.heap.size w w' := by
  by_cases h : InF a
  · have R := Lib.hid (fun w => rootOf_yes a h w)
    have F := Lib.hid (fun w => fixOf_rup a ha h.2 w)
    have E1 := Lib.hid ((rt_res h.2).2.2.1)
    have E2 := Lib.hid ((rt_res h.2).2.2.2)
    clear h ha
    go_enter Try.func54, Try.ntmps54
    go_wp2_with fail
    refine (R.out _).mono ?_
    rintro e w1 ⟨rfl, hb1⟩
    have hs1 : _ ≤ w1.heap.size := hb1.size
    try simp at hs1
    go_wp2_with fail
    refine (F.out _).mono ?_
    rintro e w2 ⟨rfl, hb2⟩
    have hs2 : _ ≤ w2.heap.size := hb2.size
    try simp at hs2
    go_wp2
    go_ret2
    exact ⟨(by first | (rw [E1.out, E2.out]; done) | (rw [E1.out, E2.out]; rfl) | (simp [E1.out, E2.out]; done)), (by repeat (first | exact Below.refl _ _ | refine Below.drew ?_ | refine Below.setCell ?_ (by first | omega | (simp; done) | (simp; omega)) _ | refine Below.alloc ?_ (by first | omega | (simp; done) | (simp; omega)) _ | refine Below.trans ?_ (Below.mono (by assumption) (by first | omega | (simp; done) | (simp; omega)))))⟩
  · have R := Lib.hid (fun w => rootOf_no a h w)
    have F := Lib.hid (fun w => fixOf_rup (-1) (by unfold In64; omega) (by omega) w)
    have E := Lib.hid (res_none (v := rtU a) (rt_none 0 h))
    have E' := Lib.hid (res_none (v := rtU (-1)) (show decide (0 ≤ (-1 : Int)) = false from rfl))
    clear h ha
    go_enter Try.func54, Try.ntmps54
    go_wp2_with fail
    refine (R.out _).mono ?_
    rintro e w1 ⟨rfl, hb1⟩
    have hs1 : _ ≤ w1.heap.size := hb1.size
    try simp at hs1
    go_wp2_with fail
    refine (F.out _).mono ?_
    rintro e w2 ⟨rfl, hb2⟩
    have hs2 : _ ≤ w2.heap.size := hb2.size
    try simp at hs2
    rw [E'.out.1, E'.out.2]
    go_wp2
    go_ret2
    exact ⟨(by first | (rw [E.out.1, E.out.2]; done) | (rw [E.out.1, E.out.2]; rfl) | (simp [E.out.1, E.out.2]; done)), (by repeat (first | exact Below.refl _ _ | refine Below.drew ?_ | refine Below.setCell ?_ (by first | omega | (simp; done) | (simp; omega)) _ | refine Below.alloc ?_ (by first | omega | (simp; done) | (simp; omega)) _ | refine Below.trans ?_ (Below.mono (by assumption) (by first | omega | (simp; done) | (simp; omega)))))⟩
end Go.Proofs.Ytfikgbamnlmglaa
