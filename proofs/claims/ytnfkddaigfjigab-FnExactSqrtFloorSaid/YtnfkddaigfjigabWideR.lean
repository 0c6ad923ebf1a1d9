/- Contracts of SqrtFloor, program and model alike, and the laws of WideSqrt and SqrtFloor. Conditions: numbers are int64 or Wide. -/
import Derived.Test.YtnfkddaigfjigabWideQ
namespace Go.Proofs.Ytnfkddaigfjigab
open Go.ChangeShapes Go.WideShapes Go.ChangeAt Go.RowKit
set_option linter.unusedVariables false

/-- The root of a product; 0 if a factor is negative. -/
def sfI (a b : Int) : Int := if a < 0 ∨ b < 0 then 0 else wrap64 (rootW (a * b).toNat : Int)
def sfB (a b : Int) : Bool := decide (¬ (a < 0 ∨ b < 0))
theorem sSqrtFloor_any (a b : Int) (ha : In64 a) (hb : In64 b) (w : World) : Calls Try.prog 36 #[.int .i64 a, .int .i64 b] w fun e w' =>
    e = .returned (.tuple #[.int .i64 (sfI a b), .bool (sfB a b)]) ∧ Below w.heap.size w w' := by
  by_cases sa : a < 0
  · have E1 := Lib.hid (show sfI a b = 0 from if_pos (.inl sa))
    have E2 := Lib.hid (show sfB a b = false by unfold sfB; simp [sa])
    go_enter Try.func36, Try.ntmps36
    go_wp2
    go_ret2
    exact ⟨by simp [E1.out, E2.out], (by repeat (first | exact Below.refl _ _ | refine Below.drew ?_ | refine Below.setCell ?_ (by first | omega | (simp; done) | (simp; omega)) _ | refine Below.alloc ?_ (by first | omega | (simp; done) | (simp; omega)) _ | refine Below.trans ?_ (Below.mono (by assumption) (by first | omega | (simp; done) | (simp; omega)))))⟩
  · by_cases sb : b < 0
    · have E1 := Lib.hid (show sfI a b = 0 from if_pos (.inr sb))
      have E2 := Lib.hid (show sfB a b = false by unfold sfB; simp [sb])
      go_enter Try.func36, Try.ntmps36
      go_wp2
      go_ret2
      exact ⟨by simp [E1.out, E2.out], (by repeat (first | exact Below.refl _ _ | refine Below.drew ?_ | refine Below.setCell ?_ (by first | omega | (simp; done) | (simp; omega)) _ | refine Below.alloc ?_ (by first | omega | (simp; done) | (simp; omega)) _ | refine Below.trans ?_ (Below.mono (by assumption) (by first | omega | (simp; done) | (simp; omega)))))⟩
    · have E1 := Lib.hid (show sfI a b = wrap64 (rootW (a * b).toNat : Int) from if_neg (by omega))
      have E2 := Lib.hid (show sfB a b = true by unfold sfB; simp; omega)
      have p0 : 0 ≤ a * b := Int.mul_nonneg (by omega) (by omega)
      have pm := mul_small ha hb
      obtain ⟨m, hm⟩ : ∃ m : Nat, a * b = m := ⟨(a * b).toNat, by omega⟩
      have HM := Lib.hid hm
      have T := Lib.hid (show (a * b).toNat = m by omega)
      have R := Lib.hid (fun w => l02Root_any m (by omega) w)
      clear p0 pm hm
      go_enter Try.func36, Try.ntmps36
      go_wp2_with fail
      refine (l02Mul_any a b ha hb _).mono ?_
      rintro e w1 ⟨rfl, hb1⟩
      have hs1 : _ ≤ w1.heap.size := hb1.size
      try simp at hs1
      rw [HM.out]
      go_wp2_with fail
      refine (R.out _).mono ?_
      rintro e w2 ⟨rfl, hb2⟩
      have hs2 : _ ≤ w2.heap.size := hb2.size
      try simp at hs2
      go_wp2
      go_ret2
      exact ⟨by simp [E1.out, E2.out, T.out], (by repeat (first | exact Below.refl _ _ | refine Below.drew ?_ | refine Below.setCell ?_ (by first | omega | (simp; done) | (simp; omega)) _ | refine Below.alloc ?_ (by first | omega | (simp; done) | (simp; omega)) _ | refine Below.trans ?_ (Below.mono (by assumption) (by first | omega | (simp; done) | (simp; omega)))))⟩
theorem SqrtFloor_any (a b : Int) (ha : In64 a) (hb : In64 b) (w : World) : Calls Try.prog 37 #[.int .i64 a, .int .i64 b] w fun e w' =>
    e = .returned (.tuple #[.int .i64 (sfI a b), .bool (sfB a b)]) ∧ Below w.heap.size w w' := by
  by_cases sa : a < 0
  · have E1 := Lib.hid (show sfI a b = 0 from if_pos (.inl sa))
    have E2 := Lib.hid (show sfB a b = false by unfold sfB; simp [sa])
    go_enter Try.func37, Try.ntmps37
    go_wp2
    go_ret2
    exact ⟨by simp [E1.out, E2.out], (by repeat (first | exact Below.refl _ _ | refine Below.drew ?_ | refine Below.setCell ?_ (by first | omega | (simp; done) | (simp; omega)) _ | refine Below.alloc ?_ (by first | omega | (simp; done) | (simp; omega)) _ | refine Below.trans ?_ (Below.mono (by assumption) (by first | omega | (simp; done) | (simp; omega)))))⟩
  · by_cases sb : b < 0
    · have E1 := Lib.hid (show sfI a b = 0 from if_pos (.inr sb))
      have E2 := Lib.hid (show sfB a b = false by unfold sfB; simp [sb])
      go_enter Try.func37, Try.ntmps37
      go_wp2
      go_ret2
      exact ⟨by simp [E1.out, E2.out], (by repeat (first | exact Below.refl _ _ | refine Below.drew ?_ | refine Below.setCell ?_ (by first | omega | (simp; done) | (simp; omega)) _ | refine Below.alloc ?_ (by first | omega | (simp; done) | (simp; omega)) _ | refine Below.trans ?_ (Below.mono (by assumption) (by first | omega | (simp; done) | (simp; omega)))))⟩
    · have E1 := Lib.hid (show sfI a b = wrap64 (rootW (a * b).toNat : Int) from if_neg (by omega))
      have E2 := Lib.hid (show sfB a b = true by unfold sfB; simp; omega)
      have p0 : 0 ≤ a * b := Int.mul_nonneg (by omega) (by omega)
      have Q1 := Lib.hid (show sqW (a * b) = (rootW (a * b).toNat : Int) from if_neg (by omega))
      have Q2 := Lib.hid (show sqOk (a * b) = true by unfold sqOk; simp; omega)
      clear p0
      go_enter Try.func37, Try.ntmps37
      go_wp2_with fail
      refine (WideMul_any a b ha hb _).mono ?_
      rintro e w1 ⟨rfl, hb1⟩
      have hs1 : _ ≤ w1.heap.size := hb1.size
      try simp at hs1
      go_wp2_with fail
      refine (WideSqrt_any (a * b) (mul_in ha hb) _).mono ?_
      rintro e w2 ⟨rfl, hb2⟩
      have hs2 : _ ≤ w2.heap.size := hb2.size
      try simp at hs2
      rw [Q1.out, Q2.out]
      go_wp2
      go_ret2
      exact ⟨by simp [E1.out, E2.out], (by repeat (first | exact Below.refl _ _ | refine Below.drew ?_ | refine Below.setCell ?_ (by first | omega | (simp; done) | (simp; omega)) _ | refine Below.alloc ?_ (by first | omega | (simp; done) | (simp; omega)) _ | refine Below.trans ?_ (Below.mono (by assumption) (by first | omega | (simp; done) | (simp; omega)))))⟩
theorem law_SqrtFloor (a b : Int) (ha : In64 a) (hb : In64 b) (w : World) : Calls Try.prog 13 #[.int .i64 a, .int .i64 b] w fun e w' =>
    e = .returned (.bool true) ∧ Below w.heap.size w w' := by
  go_enter Try.func13, Try.ntmps13
  go_wp2_with fail
  refine (sSqrtFloor_any a b ha hb _).mono ?_
  rintro e w1 ⟨rfl, hb1⟩
  have hs1 : _ ≤ w1.heap.size := hb1.size
  try simp at hs1
  go_wp2_with fail
  refine (SqrtFloor_any a b ha hb _).mono ?_
  rintro e w2 ⟨rfl, hb2⟩
  have hs2 : _ ≤ w2.heap.size := hb2.size
  try simp at hs2
  go_wp2
  go_ret
  exact ⟨rfl, (by repeat (first | exact Below.refl _ _ | refine Below.drew ?_ | refine Below.setCell ?_ (by first | omega | (simp; done) | (simp; omega)) _ | refine Below.alloc ?_ (by first | omega | (simp; done) | (simp; omega)) _ | refine Below.trans ?_ (Below.mono (by assumption) (by first | omega | (simp; done) | (simp; omega)))))⟩
theorem law_WideSqrt (h l : Int) (hh : In64 h) (hl : InU l) (w : World) : Calls Try.prog 10 #[.agg #[.int .i64 h, .int .u64 l]] w fun e w' =>
    e = .returned (.bool true) ∧ Below w.heap.size w w' := by
  obtain ⟨v, hv, rfl, rfl⟩ := of_halves h l hh hl
  go_enter Try.func10, Try.ntmps10
  go_wp2_with fail
  refine (toWide_any _ _ _).mono ?_
  rintro e w1 ⟨rfl, hb1⟩
  have hs1 : _ ≤ w1.heap.size := hb1.size
  try simp at hs1
  obtain ⟨hc1, hf1⟩ := old_kept hb1; have hz1 : w.heap.size < w1.heap.size := Nat.lt_of_lt_of_le (by first | omega | (simp; done) | (simp; omega)) hb1.size
  go_wp2_with fail
  refine (sWideSqrt_any v hv _).mono ?_
  rintro e w2 ⟨rfl, hb2⟩
  have hs2 : _ ≤ w2.heap.size := hb2.size
  try simp at hs2
  obtain ⟨hc2, hf2⟩ := old_kept hb2; have hz2 : w.heap.size < w2.heap.size := Nat.lt_of_lt_of_le (by first | omega | (simp; done) | (simp; omega)) hb2.size
  go_wp2_with fail
  refine (toWide_any _ _ _).mono ?_
  rintro e w3 ⟨rfl, hb3⟩
  have hs3 : _ ≤ w3.heap.size := hb3.size
  try simp at hs3
  go_wp2_with fail
  refine (WideSqrt_any v hv _).mono ?_
  rintro e w4 ⟨rfl, hb4⟩
  have hs4 : _ ≤ w4.heap.size := hb4.size
  try simp at hs4
  go_wp2
  go_ret
  exact ⟨rfl, (by repeat (first | exact Below.refl _ _ | refine Below.drew ?_ | refine Below.setCell ?_ (by first | omega | (simp; done) | (simp; omega)) _ | refine Below.alloc ?_ (by first | omega | (simp; done) | (simp; omega)) _ | refine Below.trans ?_ (Below.mono (by assumption) (by first | omega | (simp; done) | (simp; omega)))))⟩
end Go.Proofs.Ytnfkddaigfjigab
