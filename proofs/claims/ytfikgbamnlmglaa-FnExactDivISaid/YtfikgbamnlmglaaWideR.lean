/- Contracts of SqrtFloor, program and model alike, and the laws of WideSqrt and SqrtFloor. Conditions: numbers are int64 or Wide. -/
import Derived.Test.YtfikgbamnlmglaaWideQ
namespace Go.Proofs.Ytfikgbamnlmglaa
open Go.ChangeShapes Go.WideShapes Go.ChangeAt Go.RowKit
set_option linter.unusedVariables false
set_option maxRecDepth 100000

/-- The root of a product; 0 if a factor is negative. -/
def sfI (a b : Int) : Int := if a < 0 ∨ b < 0 then 0 else wrap64 (rootW (a * b).toNat : Int)
def sfB (a b : Int) : Bool := decide (¬ (a < 0 ∨ b < 0))
theorem sSqrtFloor_any (a b : Int) (ha : In64 a) (hb : In64 b) (w : World) : Calls Try.prog 147 #[.int .i64 a, .int .i64 b] w fun e w' =>
    e = .returned (.tuple #[.int .i64 (sfI a b), .bool (sfB a b)]) ∧ Below w.heap.size w w' := by
  by_cases sa : a < 0
  · have E1 := Lib.hid (show sfI a b = 0 from if_pos (.inl sa))
    have E2 := Lib.hid (show sfB a b = false by unfold sfB; simp [sa])
    go_enter Try.func147, Try.ntmps147
    go_wp2
    go_ret2
    exact ⟨by simp [E1.out, E2.out], (by repeat (first | exact Below.refl _ _ | refine Below.drew ?_ | refine Below.setCell ?_ (by first | omega | (simp; done) | (simp; omega)) _ | refine Below.alloc ?_ (by first | omega | (simp; done) | (simp; omega)) _ | refine Below.trans ?_ (Below.mono (by assumption) (by first | omega | (simp; done) | (simp; omega)))))⟩
  · by_cases sb : b < 0
    · have E1 := Lib.hid (show sfI a b = 0 from if_pos (.inr sb))
      have E2 := Lib.hid (show sfB a b = false by unfold sfB; simp [sb])
      go_enter Try.func147, Try.ntmps147
      go_wp2
      go_ret2
      exact ⟨by simp [E1.out, E2.out], (by repeat (first | exact Below.refl _ _ | refine Below.drew ?_ | refine Below.setCell ?_ (by first | omega | (simp; done) | (simp; omega)) _ | refine Below.alloc ?_ (by first | omega | (simp; done) | (simp; omega)) _ | refine Below.trans ?_ (Below.mono (by assumption) (by first | omega | (simp; done) | (simp; omega)))))⟩
    · have E1 := Lib.hid (show sfI a b = wrap64 (rootW (a * b).toNat : Int) from if_neg (by omega))
      have E2 := Lib.hid (show sfB a b = true by unfold sfB; simp; omega)
      have p0 : 0 ≤ a * b := Int.mul_nonneg (by omega) (by omega)
      have pm := mul_small ha hb
      obtain ⟨m, hm⟩ : ∃ m : Nat, a * b = m := ⟨(a * b).toNat, by omega⟩
      have HM := Lib.hid hm
      have T := Lib.hid (show (a * b).toNat = m by omega)
      have R := Lib.hid (fun w => l02Root_any m (by omega) w)
      clear p0 pm hm
      go_enter Try.func147, Try.ntmps147
      go_wp2_with fail
      refine (l02Mul_any a b ha hb _).mono ?_
      rintro e w1 ⟨rfl, hb1⟩
      have hs1 : _ ≤ w1.heap.size := hb1.size
      try simp at hs1
      rw [HM.out]
      go_wp2_with fail
      refine (R.out _).mono ?_
      rintro e w2 ⟨rfl, hb2⟩
      have hs2 : _ ≤ w2.heap.size := hb2.size
      try simp at hs2
      go_wp2
      go_ret2
      exact ⟨by simp [E1.out, E2.out, T.out], (by repeat (first | exact Below.refl _ _ | refine Below.drew ?_ | refine Below.setCell ?_ (by first | omega | (simp; done) | (simp; omega)) _ | refine Below.alloc ?_ (by first | omega | (simp; done) | (simp; omega)) _ | refine Below.trans ?_ (Below.mono (by assumption) (by first | omega | (simp; done) | (simp; omega)))))⟩
theorem SqrtFloor_any (a b : Int) (ha : In64 a) (hb : In64 b) (w : World) : Calls Try.prog 148 #[.int .i64 a, .int .i64 b] w fun e w' =>
    e = .returned (.tuple #[.int .i64 (sfI a b), .bool (sfB a b)]) ∧ Below w.heap.size w w' := by
  by_cases sa : a < 0
  · have E1 := Lib.hid (show sfI a b = 0 from if_pos (.inl sa))
    have E2 := Lib.hid (show sfB a b = false by unfold sfB; simp [sa])
    go_enter Try.func148, Try.ntmps148
    go_wp2
    go_ret2
    exact ⟨by simp [E1.out, E2.out], (by repeat (first | exact Below.refl _ _ | refine Below.drew ?_ | refine Below.setCell ?_ (by first | omega | (simp; done) | (simp; omega)) _ | refine Below.alloc ?_ (by first | omega | (simp; done) | (simp; omega)) _ | refine Below.trans ?_ (Below.mono (by assumption) (by first | omega | (simp; done) | (simp; omega)))))⟩
  · by_cases sb : b < 0
    · have E1 := Lib.hid (show sfI a b = 0 from if_pos (.inr sb))
      have E2 := Lib.hid (show sfB a b = false by unfold sfB; simp [sb])
      go_enter Try.func148, Try.ntmps148
      go_wp2
      go_ret2
      exact ⟨by simp [E1.out, E2.out], (by repeat (first | exact Below.refl _ _ | refine Below.drew ?_ | refine Below.setCell ?_ (by first | omega | (simp; done) | (simp; omega)) _ | refine Below.alloc ?_ (by first | omega | (simp; done) | (simp; omega)) _ | refine Below.trans ?_ (Below.mono (by assumption) (by first | omega | (simp; done) | (simp; omega)))))⟩
    · have E1 := Lib.hid (show sfI a b = wrap64 (rootW (a * b).toNat : Int) from if_neg (by omega))
      have E2 := Lib.hid (show sfB a b = true by unfold sfB; simp; omega)
      have p0 : 0 ≤ a * b := Int.mul_nonneg (by omega) (by omega)
      have Q1 := Lib.hid (show sqW (a * b) = (rootW (a * b).toNat : Int) from if_neg (by omega))
      have Q2 := Lib.hid (show sqOk (a * b) = true by unfold sqOk; simp; omega)
      clear p0
      go_enter Try.func148, Try.ntmps148
      go_wp2_with fail
      refine (WideMul_any a b ha hb _).mono ?_
      rintro e w1 ⟨rfl, hb1⟩
      have hs1 : _ ≤ w1.heap.size := hb1.size
      try simp at hs1
      go_wp2_with fail
      refine (WideSqrt_any (a * b) (mul_in ha hb) _).mono ?_
      rintro e w2 ⟨rfl, hb2⟩
      have hs2 : _ ≤ w2.heap.size := hb2.size
      try simp at hs2
      rw [Q1.out, Q2.out]
      go_wp2
      go_ret2
      exact ⟨by simp [E1.out, E2.out], (by repeat (first | exact Below.refl _ _ | refine Below.drew ?_ | refine Below.setCell ?_ (by first | omega | (simp; done) | (simp; omega)) _ | refine Below.alloc ?_ (by first | omega | (simp; done) | (simp; omega)) _ | refine Below.trans ?_ (Below.mono (by assumption) (by first | omega | (simp; done) | (simp; omega)))))⟩
end Go.Proofs.Ytfikgbamnlmglaa
