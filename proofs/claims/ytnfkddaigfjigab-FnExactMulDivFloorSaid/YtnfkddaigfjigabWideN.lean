/- The contracts of MulDivFloor, program and model alike, and the laws of WideDiv and MulDivFloor. Conditions: numbers are int64 or Wide. -/
import Derived.Test.YtnfkddaigfjigabWideM
namespace Go.Proofs.Ytnfkddaigfjigab
open Go.ChangeShapes Go.WideShapes Go.ChangeAt Go.RowKit
set_option linter.unusedVariables false

/-- A product, divided by a number: the number, and whether it is an int64. -/
def mdI (a b d : Int) : Int := if 1 ≤ d then intW (a * b / d) else 0
def mdB (a b d : Int) : Bool := if 1 ≤ d then okW (a * b / d) else false
theorem sMulDivFloor_any (a b d : Int) (ha : In64 a) (hb : In64 b) (hd : In64 d) (w : World) : Calls Try.prog 34 #[.int .i64 a, .int .i64 b, .int .i64 d] w fun e w' =>
    e = .returned (.tuple #[.int .i64 (mdI a b d), .bool (mdB a b d)]) ∧ Below w.heap.size w w' := by
  by_cases c : 1 ≤ d
  · have E1 := Lib.hid (show mdI a b d = intW (a * b / d) from if_pos c)
    have E2 := Lib.hid (show mdB a b d = okW (a * b / d) from if_pos c)
    have dp : ¬ d ≤ 0 := by omega
    go_enter Try.func34, Try.ntmps34
    go_wp2_with fail
    refine (l02Mul_any a b ha hb _).mono ?_
    rintro e w1 ⟨rfl, hb1⟩
    have hs1 : _ ≤ w1.heap.size := hb1.size
    try simp at hs1
    go_wp2_with fail
    refine (l02Div_any (a * b) d (mul_in ha hb) hd c _).mono ?_
    rintro e w2 ⟨rfl, hb2⟩
    have hs2 : _ ≤ w2.heap.size := hb2.size
    try simp at hs2
    go_wp2_with fail
    refine (l02Int_any (a * b / d) (quo_in (mul_in ha hb) c) _).mono ?_
    rintro e w3 ⟨rfl, hb3⟩
    have hs3 : _ ≤ w3.heap.size := hb3.size
    try simp at hs3
    go_wp2
    go_ret2
    exact ⟨by simp [E1.out, E2.out], (by repeat (first | exact Below.refl _ _ | refine Below.drew ?_ | refine Below.setCell ?_ (by first | omega | (simp; done) | (simp; omega)) _ | refine Below.alloc ?_ (by first | omega | (simp; done) | (simp; omega)) _ | refine Below.trans ?_ (Below.mono (by assumption) (by first | omega | (simp; done) | (simp; omega)))))⟩
  · have E1 := Lib.hid (show mdI a b d = 0 from if_neg c)
    have E2 := Lib.hid (show mdB a b d = false from if_neg c)
    have dp : d ≤ 0 := by omega
    clear c
    go_enter Try.func34, Try.ntmps34
    go_wp2
    go_ret2
    exact ⟨by simp [E1.out, E2.out], (by repeat (first | exact Below.refl _ _ | refine Below.drew ?_ | refine Below.setCell ?_ (by first | omega | (simp; done) | (simp; omega)) _ | refine Below.alloc ?_ (by first | omega | (simp; done) | (simp; omega)) _ | refine Below.trans ?_ (Below.mono (by assumption) (by first | omega | (simp; done) | (simp; omega)))))⟩
theorem MulDivFloor_any (a b d : Int) (ha : In64 a) (hb : In64 b) (hd : In64 d) (w : World) : Calls Try.prog 35 #[.int .i64 a, .int .i64 b, .int .i64 d] w fun e w' =>
    e = .returned (.tuple #[.int .i64 (mdI a b d), .bool (mdB a b d)]) ∧ Below w.heap.size w w' := by
  by_cases c : 1 ≤ d
  · have E1 := Lib.hid (show mdI a b d = intW (a * b / d) from if_pos c)
    have E2 := Lib.hid (show mdB a b d = okW (a * b / d) from if_pos c)
    have Q := Lib.hid (show quoW (a * b) d = a * b / d from if_pos c)
    have O : okD d = true := decide_eq_true c
    go_enter Try.func35, Try.ntmps35
    go_wp2_with fail
    refine (WideMul_any a b ha hb _).mono ?_
    rintro e w1 ⟨rfl, hb1⟩
    have hs1 : _ ≤ w1.heap.size := hb1.size
    try simp at hs1
    go_wp2_with fail
    refine (WideDiv_any (a * b) d (mul_in ha hb) hd _).mono ?_
    rintro e w2 ⟨rfl, hb2⟩
    have hs2 : _ ≤ w2.heap.size := hb2.size
    try simp at hs2
    rw [Q.out]
    go_wp2_with fail
    refine (WideInt_any (a * b / d) (quo_in (mul_in ha hb) c) _).mono ?_
    rintro e w3 ⟨rfl, hb3⟩
    have hs3 : _ ≤ w3.heap.size := hb3.size
    try simp at hs3
    go_wp2
    go_ret2
    exact ⟨by simp [E1.out, E2.out], (by repeat (first | exact Below.refl _ _ | refine Below.drew ?_ | refine Below.setCell ?_ (by first | omega | (simp; done) | (simp; omega)) _ | refine Below.alloc ?_ (by first | omega | (simp; done) | (simp; omega)) _ | refine Below.trans ?_ (Below.mono (by assumption) (by first | omega | (simp; done) | (simp; omega)))))⟩
  · have E1 := Lib.hid (show mdI a b d = 0 from if_neg c)
    have E2 := Lib.hid (show mdB a b d = false from if_neg c)
    have O : okD d = false := decide_eq_false c
    clear c
    go_enter Try.func35, Try.ntmps35
    go_wp2_with fail
    refine (WideMul_any a b ha hb _).mono ?_
    rintro e w1 ⟨rfl, hb1⟩
    have hs1 : _ ≤ w1.heap.size := hb1.size
    try simp at hs1
    go_wp2_with fail
    refine (WideDiv_any (a * b) d (mul_in ha hb) hd _).mono ?_
    rintro e w2 ⟨rfl, hb2⟩
    have hs2 : _ ≤ w2.heap.size := hb2.size
    try simp at hs2
    go_wp2
    go_ret2
    exact ⟨by simp [E1.out, E2.out], (by repeat (first | exact Below.refl _ _ | refine Below.drew ?_ | refine Below.setCell ?_ (by first | omega | (simp; done) | (simp; omega)) _ | refine Below.alloc ?_ (by first | omega | (simp; done) | (simp; omega)) _ | refine Below.trans ?_ (Below.mono (by assumption) (by first | omega | (simp; done) | (simp; omega)))))⟩
theorem law_MulDivFloor (a b s : Int) (ha : In64 a) (hb : In64 b) (hs : In64 s) (w : World) : Calls Try.prog 12 #[.int .i64 a, .int .i64 b, .int .i64 s] w fun e w' =>
    e = .returned (.bool true) ∧ Below w.heap.size w w' := by
  go_enter Try.func12, Try.ntmps12
  go_wp2_with fail
  refine (sMulDivFloor_any a b s ha hb hs _).mono ?_
  rintro e w1 ⟨rfl, hb1⟩
  have hs1 : _ ≤ w1.heap.size := hb1.size
  try simp at hs1
  go_wp2_with fail
  refine (MulDivFloor_any a b s ha hb hs _).mono ?_
  rintro e w2 ⟨rfl, hb2⟩
  have hs2 : _ ≤ w2.heap.size := hb2.size
  try simp at hs2
  go_wp2
  go_ret
  exact ⟨rfl, (by repeat (first | exact Below.refl _ _ | refine Below.drew ?_ | refine Below.setCell ?_ (by first | omega | (simp; done) | (simp; omega)) _ | refine Below.alloc ?_ (by first | omega | (simp; done) | (simp; omega)) _ | refine Below.trans ?_ (Below.mono (by assumption) (by first | omega | (simp; done) | (simp; omega)))))⟩
theorem law_WideDiv (h l n : Int) (hh : In64 h) (hl : InU l) (hn : In64 n) (w : World) : Calls Try.prog 9 #[.agg #[.int .i64 h, .int .u64 l], .int .i64 n] w fun e w' =>
    e = .returned (.bool true) ∧ Below w.heap.size w w' := by
  obtain ⟨v, hv, rfl, rfl⟩ := of_halves h l hh hl
  go_enter Try.func9, Try.ntmps9
  go_wp2_with fail
  refine (toWide_any _ _ _).mono ?_
  rintro e w1 ⟨rfl, hb1⟩
  have hs1 : _ ≤ w1.heap.size := hb1.size
  try simp at hs1
  obtain ⟨hc1, hf1⟩ := old_kept hb1; have hz1 : w.heap.size < w1.heap.size := Nat.lt_of_lt_of_le (by first | omega | (simp; done) | (simp; omega)) hb1.size
  go_wp2_with fail
  refine (sWideDiv_any v n hv hn _).mono ?_
  rintro e w2 ⟨rfl, hb2⟩
  have hs2 : _ ≤ w2.heap.size := hb2.size
  try simp at hs2
  obtain ⟨hc2, hf2⟩ := old_kept hb2; have hz2 : w.heap.size < w2.heap.size := Nat.lt_of_lt_of_le (by first | omega | (simp; done) | (simp; omega)) hb2.size
  go_wp2_with fail
  refine (toWide_any _ _ _).mono ?_
  rintro e w3 ⟨rfl, hb3⟩
  have hs3 : _ ≤ w3.heap.size := hb3.size
  try simp at hs3
  obtain ⟨hc3, hf3⟩ := old_kept hb3; have hz3 : w2.heap.size < w3.heap.size := Nat.lt_of_lt_of_le (by first | omega | (simp; done) | (simp; omega)) hb3.size
  go_wp2_with fail
  refine (WideDiv_any v n hv hn _).mono ?_
  rintro e w4 ⟨rfl, hb4⟩
  have hs4 : _ ≤ w4.heap.size := hb4.size
  try simp at hs4
  obtain ⟨hc4, hf4⟩ := old_kept hb4; have hz4 : w2.heap.size < w4.heap.size := Nat.lt_of_lt_of_le (by first | omega | (simp; done) | (simp; omega)) hb4.size
  go_wp2_with fail
  refine (eqWide_same _ _ _).mono ?_
  rintro e w5 ⟨rfl, hb5⟩
  have hs5 : _ ≤ w5.heap.size := hb5.size
  try simp at hs5
  go_wp2
  go_ret
  exact ⟨rfl, (by repeat (first | exact Below.refl _ _ | refine Below.drew ?_ | refine Below.setCell ?_ (by first | omega | (simp; done) | (simp; omega)) _ | refine Below.alloc ?_ (by first | omega | (simp; done) | (simp; omega)) _ | refine Below.trans ?_ (Below.mono (by assumption) (by first | omega | (simp; done) | (simp; omega)))))⟩
end Go.Proofs.Ytnfkddaigfjigab
