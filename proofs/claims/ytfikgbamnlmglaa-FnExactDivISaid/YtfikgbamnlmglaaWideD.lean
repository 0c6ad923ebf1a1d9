/- Contracts of products of int64 as wide integers, program and model alike. Conditions: numbers are int64. -/
import Derived.Test.YtfikgbamnlmglaaWideC
namespace Go.Proofs.Ytfikgbamnlmglaa
open Go.ChangeShapes Go.WideShapes Go.ChangeAt Go.RowKit
set_option linter.unusedVariables false
set_option maxRecDepth 100000

theorem size_inU {a : Int} (ha : In64 a) : InU (a.natAbs : Int) := by unfold In64 at ha; unfold InU; omega
theorem l02Times_abs (a b : Int) (ha : In64 a) (hb : In64 b) (w : World) :
    Calls Try.prog 163 #[.int .u64 (a.natAbs : Int), .int .u64 (b.natAbs : Int)] w fun e w' => e = .returned (.tuple #[.int .u64 (hiW (absMul a b)), .int .u64 (loW (absMul a b))]) ∧ w = w' :=
  l02Times_any _ _ (size_inU ha) (size_inU hb) w
theorem l02Mul_any (a b : Int) (ha : In64 a) (hb : In64 b) (w : World) : Calls Try.prog 150 #[.int .i64 a, .int .i64 b] w fun e w' =>
    e = .returned (.agg #[.int .i64 (hiW (a * b)), .int .u64 (loW (a * b))]) ∧ Below w.heap.size w w' := by
  have E0 := Lib.hid (absMul_hi ha hb)
  by_cases s : (a < 0) = (b < 0)
  · have E1 := Lib.hid (show absMul a b = a * b from abs_mul_same s)
    have s0 : (!(decide (a < 0) == decide (b < 0))) = false := by simp [s]
    clear s
    go_enter Try.func150, Try.ntmps150
    go_wp2_with fail
    refine (l02Size_any a ha _).mono ?_
    rintro e w1 ⟨rfl, rfl⟩
    go_wp2_with fail
    refine (l02Size_any b hb _).mono ?_
    rintro e w1 ⟨rfl, rfl⟩
    go_wp2_with fail
    refine (l02Times_abs a b ha hb _).mono ?_
    rintro e w1 ⟨rfl, rfl⟩
    go_wp2
    exact bodyPost_ret (v := .agg #[.int .i64 (wrap64 (hiW (absMul a b))), .int .u64 (loW (absMul a b))]) (by simp [results, Try.results150, go_sem]) rfl ⟨by rw [E0.out, E1.out], (by repeat (first | exact Below.refl _ _ | refine Below.drew ?_ | refine Below.setCell ?_ (by first | omega | (simp; done) | (simp; omega)) _ | refine Below.alloc ?_ (by first | omega | (simp; done) | (simp; omega)) _ | refine Below.trans ?_ (Below.mono (by assumption) (by first | omega | (simp; done) | (simp; omega)))))⟩
  · have E1 := Lib.hid (neg_absMul ha hb s)
    have s0 : (!(decide (a < 0) == decide (b < 0))) = true := by
      by_cases h1 : a < 0 <;> by_cases h2 : b < 0 <;> simp_all
    clear s
    go_enter Try.func150, Try.ntmps150
    go_wp2_with fail
    refine (l02Size_any a ha _).mono ?_
    rintro e w1 ⟨rfl, rfl⟩
    go_wp2_with fail
    refine (l02Size_any b hb _).mono ?_
    rintro e w1 ⟨rfl, rfl⟩
    go_wp2_with fail
    refine (l02Times_abs a b ha hb _).mono ?_
    rintro e w1 ⟨rfl, rfl⟩
    go_wp2_with fail
    rw [E0.out]
    refine (l02Minus_any (absMul a b) (absMul_inW ha hb) _).mono ?_
    rintro e w2 ⟨rfl, hb2⟩
    have hs2 : _ ≤ w2.heap.size := hb2.size
    try simp at hs2
    rw [E1.out]
    obtain ⟨hc2, hf2⟩ := old_kept hb2; have hz2 : w.heap.size + 1 < w2.heap.size := Nat.lt_of_lt_of_le (by first | omega | (simp; done) | (simp; omega)) hb2.size; have hz2a : w.heap.size < w2.heap.size := Nat.lt_of_lt_of_le (by first | omega | (simp; done) | (simp; omega)) hb2.size
    have k20 := hc2 (w.heap.size) 0 (by first | assumption | omega | (simp; done) | (simp; omega)); have k21 := hc2 (w.heap.size) 1 (by first | assumption | omega | (simp; done) | (simp; omega))
    go_wp2
    exact bodyPost_ret (v := .agg #[.int .i64 (hiW (a * b)), .int .u64 (loW (a * b))]) (by simp [results, Try.results150, go_sem, k20, k21]) rfl ⟨rfl, (by repeat (first | exact Below.refl _ _ | refine Below.drew ?_ | refine Below.setCell ?_ (by first | omega | (simp; done) | (simp; omega)) _ | refine Below.alloc ?_ (by first | omega | (simp; done) | (simp; omega)) _ | refine Below.trans ?_ (Below.mono (by assumption) (by first | omega | (simp; done) | (simp; omega)))))⟩
theorem WideMul_any (a b : Int) (ha : In64 a) (hb : In64 b) (w : World) : Calls Try.prog 110 #[.int .i64 a, .int .i64 b] w fun e w' =>
    e = .returned (.agg #[.int .i64 (hiW (a * b)), .int .u64 (loW (a * b))]) ∧ Below w.heap.size w w' := by
  by_cases sa : a < 0
  · by_cases sb : b < 0
    · obtain ⟨e1, e2⟩ := mulhi_nn ha hb sa sb
      have E1 := Lib.hid e1
      have E2 := Lib.hid e2
      clear e1 e2
      go_enter Try.func110, Try.ntmps110
      go_wp2_with fail
      rw [wrapU, wrapU]
      refine (Mul64_any (loW a) (loW b) (loW_in a) (loW_in b) _).mono ?_
      rintro e w1 ⟨rfl, rfl⟩
      go_wp2
      exact bodyPost_ret (v := .agg #[.int .i64 (wrap64 (IntKind.u64.wrap (IntKind.u64.wrap (hiW (loW a * loW b) - IntKind.u64.wrap b) - IntKind.u64.wrap a))), .int .u64 (loW (loW a * loW b))]) (by simp [results, Try.results110, go_sem]) rfl ⟨by simp only [wrapU, E1.out, E2.out], (by repeat (first | exact Below.refl _ _ | refine Below.drew ?_ | refine Below.setCell ?_ (by first | omega | (simp; done) | (simp; omega)) _ | refine Below.alloc ?_ (by first | omega | (simp; done) | (simp; omega)) _ | refine Below.trans ?_ (Below.mono (by assumption) (by first | omega | (simp; done) | (simp; omega)))))⟩
    · obtain ⟨e1, e2⟩ := mulhi_np ha hb sa sb
      have E1 := Lib.hid e1
      have E2 := Lib.hid e2
      clear e1 e2
      go_enter Try.func110, Try.ntmps110
      go_wp2_with fail
      rw [wrapU, wrapU]
      refine (Mul64_any (loW a) (loW b) (loW_in a) (loW_in b) _).mono ?_
      rintro e w1 ⟨rfl, rfl⟩
      go_wp2
      exact bodyPost_ret (v := .agg #[.int .i64 (wrap64 (IntKind.u64.wrap (hiW (loW a * loW b) - IntKind.u64.wrap b))), .int .u64 (loW (loW a * loW b))]) (by simp [results, Try.results110, go_sem]) rfl ⟨by simp only [wrapU, E1.out, E2.out], (by repeat (first | exact Below.refl _ _ | refine Below.drew ?_ | refine Below.setCell ?_ (by first | omega | (simp; done) | (simp; omega)) _ | refine Below.alloc ?_ (by first | omega | (simp; done) | (simp; omega)) _ | refine Below.trans ?_ (Below.mono (by assumption) (by first | omega | (simp; done) | (simp; omega)))))⟩
  · by_cases sb : b < 0
    · obtain ⟨e1, e2⟩ := mulhi_pn ha hb sa sb
      have E1 := Lib.hid e1
      have E2 := Lib.hid e2
      clear e1 e2
      go_enter Try.func110, Try.ntmps110
      go_wp2_with fail
      rw [wrapU, wrapU]
      refine (Mul64_any (loW a) (loW b) (loW_in a) (loW_in b) _).mono ?_
      rintro e w1 ⟨rfl, rfl⟩
      go_wp2
      exact bodyPost_ret (v := .agg #[.int .i64 (wrap64 (IntKind.u64.wrap (hiW (loW a * loW b) - IntKind.u64.wrap a))), .int .u64 (loW (loW a * loW b))]) (by simp [results, Try.results110, go_sem]) rfl ⟨by simp only [wrapU, E1.out, E2.out], (by repeat (first | exact Below.refl _ _ | refine Below.drew ?_ | refine Below.setCell ?_ (by first | omega | (simp; done) | (simp; omega)) _ | refine Below.alloc ?_ (by first | omega | (simp; done) | (simp; omega)) _ | refine Below.trans ?_ (Below.mono (by assumption) (by first | omega | (simp; done) | (simp; omega)))))⟩
    · obtain ⟨e1, e2⟩ := mulhi_pp ha hb sa sb
      have E1 := Lib.hid e1
      have E2 := Lib.hid e2
      clear e1 e2
      go_enter Try.func110, Try.ntmps110
      go_wp2_with fail
      rw [wrapU, wrapU]
      refine (Mul64_any (loW a) (loW b) (loW_in a) (loW_in b) _).mono ?_
      rintro e w1 ⟨rfl, rfl⟩
      go_wp2
      exact bodyPost_ret (v := .agg #[.int .i64 (wrap64 (hiW (loW a * loW b))), .int .u64 (loW (loW a * loW b))]) (by simp [results, Try.results110, go_sem]) rfl ⟨by rw [E1.out, E2.out], (by repeat (first | exact Below.refl _ _ | refine Below.drew ?_ | refine Below.setCell ?_ (by first | omega | (simp; done) | (simp; omega)) _ | refine Below.alloc ?_ (by first | omega | (simp; done) | (simp; omega)) _ | refine Below.trans ?_ (Below.mono (by assumption) (by first | omega | (simp; done) | (simp; omega)))))⟩
end Go.Proofs.Ytfikgbamnlmglaa
