/- Contracts of sums and negatives of wide integers, program and model alike, and the laws of WideAdd and WideNeg. Conditions: numbers are Wide. -/
import Derived.Test.YtfikgbamnlmglaaWideE
namespace Go.Proofs.Ytfikgbamnlmglaa
open Go.ChangeShapes Go.WideShapes Go.ChangeAt Go.RowKit
set_option linter.unusedVariables false
set_option maxRecDepth 100000

theorem add64_law (x y c : Int) (hx : InU x) (hy : InU y) (hc : c = 0 ∨ c = 1) (w : World) :
    (callFunc 155 #[.int .u64 x, .int .u64 y, .int .u64 c]).run Try.prog w = .ok (.value (.tuple #[.int .u64 (loW (x + y + c)), .int .u64 (carryW x y c)])) w := by
  obtain ⟨X, rfl⟩ : ∃ X : Nat, x = X := ⟨x.toNat, by unfold InU at hx; omega⟩
  obtain ⟨Y, rfl⟩ : ∃ Y : Nat, y = Y := ⟨y.toNat, by unfold InU at hy; omega⟩
  obtain ⟨C, rfl, hC⟩ : ∃ C : Nat, c = C ∧ C ≤ 1 := ⟨c.toNat, by omega, by omega⟩
  unfold InU at hx hy
  rw [run_callFunc_extern Try.func155 (by kernel_rfl) (by kernel_rfl) (by kernel_rfl) (e := add64Entry) (by kernel_rfl), run_add64 X Y C (by omega) (by omega) (by omega) (by omega)]
  simp only [Result.andThen]
  rfl
theorem sum_word {u v : Int} (hu : InW u) (hv : InW v) : wrap64 (loW (hiW (addW u v))) = hiW (addW u v) := lo_back (hiW_in (addW_in u v))
set_option maxHeartbeats 4000000 in
theorem WideAdd_any (u v : Int) (hu : InW u) (hv : InW v) (w : World) : Calls Try.prog 144 #[.agg #[.int .i64 (hiW u), .int .u64 (loW u)], .agg #[.int .i64 (hiW v), .int .u64 (loW v)]] w fun e w' =>
    e = .returned (.tuple #[.agg #[.int .i64 (hiW (sumW u v)), .int .u64 (loW (sumW u v))], .bool (sumOk u v)]) ∧ Below w.heap.size w w' := by
  have l1 := add_low u v
  have l2 := add_high hu hv
  have l3 := sum_word hu hv
  by_cases s0 : hiW u < 0
  · by_cases s1 : hiW v < 0
    · by_cases s2 : hiW (addW u v) < 0
      · have Da : decide (hiW u < 0) = true := by simpa using s0
        have Db : decide (hiW v < 0) = true := by simpa using s1
        have Dc : decide (hiW (addW u v) < 0) = true := by simpa using s2
        obtain ⟨e1, e2⟩ := sum_fits hu hv (.inr (by simp [s0, s2]))
        have E1 := Lib.hid e1
        have E2 := Lib.hid e2
        clear e1 e2
        go_enter Try.func144, Try.ntmps144
        go_wp2_with fail
        rw [add64_law (loW u) (loW v) 0 (loW_in u) (loW_in v) (.inl rfl)]
        go_wp2_with fail
        rw [wrapU, wrapU, add64_law (loW (hiW u)) (loW (hiW v)) (carryW (loW u) (loW v) 0) (loW_in _) (loW_in _) (carry_01 (loW_in u) (loW_in v) (.inl rfl))]
        go_wp2
        exact bodyPost_ret (v := .tuple #[.agg #[.int .i64 (hiW (addW u v)), .int .u64 (loW (addW u v))], .bool true]) (by simp [results, Try.results144, go_sem]) rfl ⟨by rw [E1.out, E2.out], (by repeat (first | exact Below.refl _ _ | refine Below.drew ?_ | refine Below.setCell ?_ (by first | omega | (simp; done) | (simp; omega)) _ | refine Below.alloc ?_ (by first | omega | (simp; done) | (simp; omega)) _ | refine Below.trans ?_ (Below.mono (by assumption) (by first | omega | (simp; done) | (simp; omega)))))⟩
      · have Da : decide (hiW u < 0) = true := by simpa using s0
        have Db : decide (hiW v < 0) = true := by simpa using s1
        have Dc : decide (hiW (addW u v) < 0) = false := by simpa using s2
        obtain ⟨e1, e2⟩ := sum_over hu hv (by simp [s0, s1]) (by simp [s0, s2])
        have E1 := Lib.hid e1
        have E2 := Lib.hid e2
        clear e1 e2
        go_enter Try.func144, Try.ntmps144
        go_wp2_with fail
        rw [add64_law (loW u) (loW v) 0 (loW_in u) (loW_in v) (.inl rfl)]
        go_wp2_with fail
        rw [wrapU, wrapU, add64_law (loW (hiW u)) (loW (hiW v)) (carryW (loW u) (loW v) 0) (loW_in _) (loW_in _) (carry_01 (loW_in u) (loW_in v) (.inl rfl))]
        go_wp2
        exact bodyPost_ret (v := .tuple #[.agg #[.int .i64 0, .int .u64 0], .bool false]) (by simp [results, Try.results144, go_sem]) rfl ⟨by rw [E1.out, E2.out]; rfl, (by repeat (first | exact Below.refl _ _ | refine Below.drew ?_ | refine Below.setCell ?_ (by first | omega | (simp; done) | (simp; omega)) _ | refine Below.alloc ?_ (by first | omega | (simp; done) | (simp; omega)) _ | refine Below.trans ?_ (Below.mono (by assumption) (by first | omega | (simp; done) | (simp; omega)))))⟩
    · by_cases s2 : hiW (addW u v) < 0
      · have Da : decide (hiW u < 0) = true := by simpa using s0
        have Db : decide (hiW v < 0) = false := by simpa using s1
        have Dc : decide (hiW (addW u v) < 0) = true := by simpa using s2
        obtain ⟨e1, e2⟩ := sum_fits hu hv (.inl (by simp [s0, s1]))
        have E1 := Lib.hid e1
        have E2 := Lib.hid e2
        clear e1 e2
        go_enter Try.func144, Try.ntmps144
        go_wp2_with fail
        rw [add64_law (loW u) (loW v) 0 (loW_in u) (loW_in v) (.inl rfl)]
        go_wp2_with fail
        rw [wrapU, wrapU, add64_law (loW (hiW u)) (loW (hiW v)) (carryW (loW u) (loW v) 0) (loW_in _) (loW_in _) (carry_01 (loW_in u) (loW_in v) (.inl rfl))]
        go_wp2
        exact bodyPost_ret (v := .tuple #[.agg #[.int .i64 (hiW (addW u v)), .int .u64 (loW (addW u v))], .bool true]) (by simp [results, Try.results144, go_sem]) rfl ⟨by rw [E1.out, E2.out], (by repeat (first | exact Below.refl _ _ | refine Below.drew ?_ | refine Below.setCell ?_ (by first | omega | (simp; done) | (simp; omega)) _ | refine Below.alloc ?_ (by first | omega | (simp; done) | (simp; omega)) _ | refine Below.trans ?_ (Below.mono (by assumption) (by first | omega | (simp; done) | (simp; omega)))))⟩
      · have Da : decide (hiW u < 0) = true := by simpa using s0
        have Db : decide (hiW v < 0) = false := by simpa using s1
        have Dc : decide (hiW (addW u v) < 0) = false := by simpa using s2
        obtain ⟨e1, e2⟩ := sum_fits hu hv (.inl (by simp [s0, s1]))
        have E1 := Lib.hid e1
        have E2 := Lib.hid e2
        clear e1 e2
        go_enter Try.func144, Try.ntmps144
        go_wp2_with fail
        rw [add64_law (loW u) (loW v) 0 (loW_in u) (loW_in v) (.inl rfl)]
        go_wp2_with fail
        rw [wrapU, wrapU, add64_law (loW (hiW u)) (loW (hiW v)) (carryW (loW u) (loW v) 0) (loW_in _) (loW_in _) (carry_01 (loW_in u) (loW_in v) (.inl rfl))]
        go_wp2
        exact bodyPost_ret (v := .tuple #[.agg #[.int .i64 (hiW (addW u v)), .int .u64 (loW (addW u v))], .bool true]) (by simp [results, Try.results144, go_sem]) rfl ⟨by rw [E1.out, E2.out], (by repeat (first | exact Below.refl _ _ | refine Below.drew ?_ | refine Below.setCell ?_ (by first | omega | (simp; done) | (simp; omega)) _ | refine Below.alloc ?_ (by first | omega | (simp; done) | (simp; omega)) _ | refine Below.trans ?_ (Below.mono (by assumption) (by first | omega | (simp; done) | (simp; omega)))))⟩
  · by_cases s1 : hiW v < 0
    · by_cases s2 : hiW (addW u v) < 0
      · have Da : decide (hiW u < 0) = false := by simpa using s0
        have Db : decide (hiW v < 0) = true := by simpa using s1
        have Dc : decide (hiW (addW u v) < 0) = true := by simpa using s2
        obtain ⟨e1, e2⟩ := sum_fits hu hv (.inl (by simp [s0, s1]))
        have E1 := Lib.hid e1
        have E2 := Lib.hid e2
        clear e1 e2
        go_enter Try.func144, Try.ntmps144
        go_wp2_with fail
        rw [add64_law (loW u) (loW v) 0 (loW_in u) (loW_in v) (.inl rfl)]
        go_wp2_with fail
        rw [wrapU, wrapU, add64_law (loW (hiW u)) (loW (hiW v)) (carryW (loW u) (loW v) 0) (loW_in _) (loW_in _) (carry_01 (loW_in u) (loW_in v) (.inl rfl))]
        go_wp2
        exact bodyPost_ret (v := .tuple #[.agg #[.int .i64 (hiW (addW u v)), .int .u64 (loW (addW u v))], .bool true]) (by simp [results, Try.results144, go_sem]) rfl ⟨by rw [E1.out, E2.out], (by repeat (first | exact Below.refl _ _ | refine Below.drew ?_ | refine Below.setCell ?_ (by first | omega | (simp; done) | (simp; omega)) _ | refine Below.alloc ?_ (by first | omega | (simp; done) | (simp; omega)) _ | refine Below.trans ?_ (Below.mono (by assumption) (by first | omega | (simp; done) | (simp; omega)))))⟩
      · have Da : decide (hiW u < 0) = false := by simpa using s0
        have Db : decide (hiW v < 0) = true := by simpa using s1
        have Dc : decide (hiW (addW u v) < 0) = false := by simpa using s2
        obtain ⟨e1, e2⟩ := sum_fits hu hv (.inl (by simp [s0, s1]))
        have E1 := Lib.hid e1
        have E2 := Lib.hid e2
        clear e1 e2
        go_enter Try.func144, Try.ntmps144
        go_wp2_with fail
        rw [add64_law (loW u) (loW v) 0 (loW_in u) (loW_in v) (.inl rfl)]
        go_wp2_with fail
        rw [wrapU, wrapU, add64_law (loW (hiW u)) (loW (hiW v)) (carryW (loW u) (loW v) 0) (loW_in _) (loW_in _) (carry_01 (loW_in u) (loW_in v) (.inl rfl))]
        go_wp2
        exact bodyPost_ret (v := .tuple #[.agg #[.int .i64 (hiW (addW u v)), .int .u64 (loW (addW u v))], .bool true]) (by simp [results, Try.results144, go_sem]) rfl ⟨by rw [E1.out, E2.out], (by repeat (first | exact Below.refl _ _ | refine Below.drew ?_ | refine Below.setCell ?_ (by first | omega | (simp; done) | (simp; omega)) _ | refine Below.alloc ?_ (by first | omega | (simp; done) | (simp; omega)) _ | refine Below.trans ?_ (Below.mono (by assumption) (by first | omega | (simp; done) | (simp; omega)))))⟩
    · by_cases s2 : hiW (addW u v) < 0
      · have Da : decide (hiW u < 0) = false := by simpa using s0
        have Db : decide (hiW v < 0) = false := by simpa using s1
        have Dc : decide (hiW (addW u v) < 0) = true := by simpa using s2
        obtain ⟨e1, e2⟩ := sum_over hu hv (by simp [s0, s1]) (by simp [s0, s2])
        have E1 := Lib.hid e1
        have E2 := Lib.hid e2
        clear e1 e2
        go_enter Try.func144, Try.ntmps144
        go_wp2_with fail
        rw [add64_law (loW u) (loW v) 0 (loW_in u) (loW_in v) (.inl rfl)]
        go_wp2_with fail
        rw [wrapU, wrapU, add64_law (loW (hiW u)) (loW (hiW v)) (carryW (loW u) (loW v) 0) (loW_in _) (loW_in _) (carry_01 (loW_in u) (loW_in v) (.inl rfl))]
        go_wp2
        exact bodyPost_ret (v := .tuple #[.agg #[.int .i64 0, .int .u64 0], .bool false]) (by simp [results, Try.results144, go_sem]) rfl ⟨by rw [E1.out, E2.out]; rfl, (by repeat (first | exact Below.refl _ _ | refine Below.drew ?_ | refine Below.setCell ?_ (by first | omega | (simp; done) | (simp; omega)) _ | refine Below.alloc ?_ (by first | omega | (simp; done) | (simp; omega)) _ | refine Below.trans ?_ (Below.mono (by assumption) (by first | omega | (simp; done) | (simp; omega)))))⟩
      · have Da : decide (hiW u < 0) = false := by simpa using s0
        have Db : decide (hiW v < 0) = false := by simpa using s1
        have Dc : decide (hiW (addW u v) < 0) = false := by simpa using s2
        obtain ⟨e1, e2⟩ := sum_fits hu hv (.inr (by simp [s0, s2]))
        have E1 := Lib.hid e1
        have E2 := Lib.hid e2
        clear e1 e2
        go_enter Try.func144, Try.ntmps144
        go_wp2_with fail
        rw [add64_law (loW u) (loW v) 0 (loW_in u) (loW_in v) (.inl rfl)]
        go_wp2_with fail
        rw [wrapU, wrapU, add64_law (loW (hiW u)) (loW (hiW v)) (carryW (loW u) (loW v) 0) (loW_in _) (loW_in _) (carry_01 (loW_in u) (loW_in v) (.inl rfl))]
        go_wp2
        exact bodyPost_ret (v := .tuple #[.agg #[.int .i64 (hiW (addW u v)), .int .u64 (loW (addW u v))], .bool true]) (by simp [results, Try.results144, go_sem]) rfl ⟨by rw [E1.out, E2.out], (by repeat (first | exact Below.refl _ _ | refine Below.drew ?_ | refine Below.setCell ?_ (by first | omega | (simp; done) | (simp; omega)) _ | refine Below.alloc ?_ (by first | omega | (simp; done) | (simp; omega)) _ | refine Below.trans ?_ (Below.mono (by assumption) (by first | omega | (simp; done) | (simp; omega)))))⟩
end Go.Proofs.Ytfikgbamnlmglaa
