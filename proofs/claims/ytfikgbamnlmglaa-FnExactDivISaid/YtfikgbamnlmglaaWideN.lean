/- The contracts of MulDivFloor, program and model alike, and the laws of WideDiv and MulDivFloor. Conditions: numbers are int64 or Wide. -/
import Derived.Test.YtfikgbamnlmglaaWideM
namespace Go.Proofs.Ytfikgbamnlmglaa
open Go.ChangeShapes Go.WideShapes Go.ChangeAt Go.RowKit
set_option linter.unusedVariables false
set_option maxRecDepth 100000

/-- A product, divided by a number: the number, and whether it is an int64. -/
def mdI (a b d : Int) : Int := if 1 ≤ d then intW (a * b / d) else 0
def mdB (a b d : Int) : Bool := if 1 ≤ d then okW (a * b / d) else false
theorem sMulDivFloor_any (a b d : Int) (ha : In64 a) (hb : In64 b) (hd : In64 d) (w : World) : Calls Try.prog 139 #[.int .i64 a, .int .i64 b, .int .i64 d] w fun e w' =>
    e = .returned (.tuple #[.int .i64 (mdI a b d), .bool (mdB a b d)]) ∧ Below w.heap.size w w' := by
  by_cases c : 1 ≤ d
  · have E1 := Lib.hid (show mdI a b d = intW (a * b / d) from if_pos c)
    have E2 := Lib.hid (show mdB a b d = okW (a * b / d) from if_pos c)
    have dp : ¬ d ≤ 0 := by omega
    go_enter Try.func139, Try.ntmps139
    go_wp2_with fail
    refine (l02Mul_any a b ha hb _).mono ?_
    rintro e w1 ⟨rfl, hb1⟩
    have hs1 : _ ≤ w1.heap.size := hb1.size
    try simp at hs1
    go_wp2_with fail
    refine (l02Div_any (a * b) d (mul_in ha hb) hd c _).mono ?_
    rintro e w2 ⟨rfl, hb2⟩
    have hs2 : _ ≤ w2.heap.size := hb2.size
    try simp at hs2
    go_wp2_with fail
    refine (l02Int_any (a * b / d) (quo_in (mul_in ha hb) c) _).mono ?_
    rintro e w3 ⟨rfl, hb3⟩
    have hs3 : _ ≤ w3.heap.size := hb3.size
    try simp at hs3
    go_wp2
    go_ret2
    exact ⟨by simp [E1.out, E2.out], (by repeat (first | exact Below.refl _ _ | refine Below.drew ?_ | refine Below.setCell ?_ (by first | omega | (simp; done) | (simp; omega)) _ | refine Below.alloc ?_ (by first | omega | (simp; done) | (simp; omega)) _ | refine Below.trans ?_ (Below.mono (by assumption) (by first | omega | (simp; done) | (simp; omega)))))⟩
  · have E1 := Lib.hid (show mdI a b d = 0 from if_neg c)
    have E2 := Lib.hid (show mdB a b d = false from if_neg c)
    have dp : d ≤ 0 := by omega
    clear c
    go_enter Try.func139, Try.ntmps139
    go_wp2
    go_ret2
    exact ⟨by simp [E1.out, E2.out], (by repeat (first | exact Below.refl _ _ | refine Below.drew ?_ | refine Below.setCell ?_ (by first | omega | (simp; done) | (simp; omega)) _ | refine Below.alloc ?_ (by first | omega | (simp; done) | (simp; omega)) _ | refine Below.trans ?_ (Below.mono (by assumption) (by first | omega | (simp; done) | (simp; omega)))))⟩
end Go.Proofs.Ytfikgbamnlmglaa
