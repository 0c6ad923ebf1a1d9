/- Contracts of MulFloor, program and model alike, and its law. Conditions: numbers are int64. -/
import Derived.Test.YtfikgbamnlmglaaWideF
namespace Go.Proofs.Ytfikgbamnlmglaa
open Go.ChangeShapes Go.WideShapes Go.ChangeAt Go.RowKit
set_option linter.unusedVariables false
set_option maxRecDepth 100000

/-- A product, divided by a power of 2: the number, and whether it is an int64. -/
def mfI (a b s : Int) : Int := if 0 ≤ s ∧ s ≤ 126 then intW (shrW (a * b) s) else 0
def mfB (a b s : Int) : Bool := if 0 ≤ s ∧ s ≤ 126 then okW (shrW (a * b) s) else false
theorem sMulFloor_any (a b s : Int) (ha : In64 a) (hb : In64 b) (hs : In64 s) (w : World) : Calls Try.prog 146 #[.int .i64 a, .int .i64 b, .int .i64 s] w fun e w' =>
    e = .returned (.tuple #[.int .i64 (mfI a b s), .bool (mfB a b s)]) ∧ Below w.heap.size w w' := by
  by_cases c : 0 ≤ s ∧ s ≤ 126
  · have E1 := Lib.hid (show mfI a b s = intW (shrW (a * b) s) from if_pos c)
    have E2 := Lib.hid (show mfB a b s = okW (shrW (a * b) s) from if_pos c)
    obtain ⟨c0, c1⟩ := c
    go_enter Try.func146, Try.ntmps146
    go_wp2_with fail
    refine (l00In_yes s 0 126 c0 c1 _).mono ?_
    rintro e w1 ⟨rfl, rfl⟩
    go_wp2_with fail
    refine (l02Mul_any a b ha hb _).mono ?_
    rintro e w1 ⟨rfl, hb1⟩
    have hs1 : _ ≤ w1.heap.size := hb1.size
    try simp at hs1
    go_wp2_with fail
    refine (l02Shift_any (a * b) s (mul_in ha hb) c0 (by omega) _).mono ?_
    rintro e w2 ⟨rfl, hb2⟩
    have hs2 : _ ≤ w2.heap.size := hb2.size
    try simp at hs2
    go_wp2_with fail
    refine (l02Int_any (shrW (a * b) s) (shr_in (mul_in ha hb) s) _).mono ?_
    rintro e w3 ⟨rfl, hb3⟩
    have hs3 : _ ≤ w3.heap.size := hb3.size
    try simp at hs3
    go_wp2
    go_ret2
    exact ⟨by simp [E1.out, E2.out], (by repeat (first | exact Below.refl _ _ | refine Below.drew ?_ | refine Below.setCell ?_ (by first | omega | (simp; done) | (simp; omega)) _ | refine Below.alloc ?_ (by first | omega | (simp; done) | (simp; omega)) _ | refine Below.trans ?_ (Below.mono (by assumption) (by first | omega | (simp; done) | (simp; omega)))))⟩
  · have E1 := Lib.hid (show mfI a b s = 0 from if_neg c)
    have E2 := Lib.hid (show mfB a b s = false from if_neg c)
    have c' : s < 0 ∨ 126 < s := by omega
    clear c
    go_enter Try.func146, Try.ntmps146
    go_wp2_with fail
    refine (l00In_no s 0 126 c' _).mono ?_
    rintro e w1 ⟨rfl, rfl⟩
    go_wp2
    go_ret2
    exact ⟨by simp [E1.out, E2.out], (by repeat (first | exact Below.refl _ _ | refine Below.drew ?_ | refine Below.setCell ?_ (by first | omega | (simp; done) | (simp; omega)) _ | refine Below.alloc ?_ (by first | omega | (simp; done) | (simp; omega)) _ | refine Below.trans ?_ (Below.mono (by assumption) (by first | omega | (simp; done) | (simp; omega)))))⟩
end Go.Proofs.Ytfikgbamnlmglaa
