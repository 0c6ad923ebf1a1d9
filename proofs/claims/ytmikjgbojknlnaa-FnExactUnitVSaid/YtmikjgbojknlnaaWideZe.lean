/- Contracts of shifts, sums, negatives and comparisons of wide integers, program and model alike. Conditions: numbers are int64 or Wide. Contracts of sums and negatives of wide integers, program and model alike, and the laws of WideAdd and WideNeg. Conditions: numbers are Wide. Contracts of MulFloor, program and model alike, and its law. Conditions: numbers are int64. -/
import Derived.Test.YtmikjgbojknlnaaWideZa
import Derived.Test.YtmikjgbojknlnaaNumZ
import Derived.BigRegion
import Derived.BigQuiet
import Derived.Outline
namespace Go.Proofs.Ytmikjgbojknlnaa
open Go.ChangeShapes Go.WideShapes Go.ChangeAt Go.RowKit
set_option linter.unusedVariables false
set_option maxRecDepth 100000
set_option linter.unusedSimpArgs false
set_option maxHeartbeats 1000000

theorem shr_mid {v n : Int} (hv : InW v) (h0 : 0 ≤ n) (h1 : n < 64) :
    hiW v / 2 ^ n.toNat = hiW (shrW v n) ∧
    bits .or .u64 (IntKind.u64.wrap (IntKind.u64.wrap (hiW v) * 2 ^ (64 - n).toNat)) (loW v / 2 ^ n.toNat) = loW (shrW v n) ∧
    bits .or .u64 (loW v / 2 ^ n.toNat) (IntKind.u64.wrap (IntKind.u64.wrap (hiW v) * 2 ^ (64 - n).toNat)) = loW (shrW v n) := by
  have e : shrW v n = v / 2 ^ n.toNat := if_pos (by omega)
  have k : (64 - n).toNat = 64 - n.toNat := by omega
  rw [e, k, wrapU, wrapU]
  obtain ⟨a, b⟩ := lo_div hv n.toNat (by omega)
  exact ⟨(hi_div v _).symm, a, b⟩
theorem shr_far {v n : Int} (hv : InW v) (h0 : 64 ≤ n) (h1 : n ≤ 127) :
    hiW v / 2 ^ (n - 64).toNat = shrW v n ∧ hiW v / 9223372036854775808 = hiW (shrW v n) ∧ In64 (shrW v n) := by
  have e : shrW v n = hiW v / 2 ^ (n - 64).toNat := by
    unfold shrW
    rw [if_pos (by omega), ← div_high, show 64 + (n - 64).toNat = n.toNat by omega]
  rw [e]
  exact ⟨rfl, (hi_sign hv _).symm, hi_in64 hv _⟩
theorem shr_none (v : Int) : shrW v 0 = v := by
  have e : shrW v 0 = v / 2 ^ (0 : Int).toNat := if_pos (by omega)
  rw [e]; simp
theorem shr_out {v n : Int} (h : ¬ (0 ≤ n ∧ n ≤ 127)) : hiW (shrW v n) = 0 ∧ loW (shrW v n) = 0 := by
  have e : shrW v n = 0 := if_neg h
  rw [e]; exact ⟨rfl, rfl⟩
theorem l02Shift_any (v n : Int) (hv : InW v) (h0 : 0 ≤ n) (h1 : n ≤ 127) (w : World) : Calls Try.prog 207 #[.agg #[.int .i64 (hiW v), .int .u64 (loW v)], .int .i64 n] w fun e w' =>
    e = .returned (.agg #[.int .i64 (hiW (shrW v n)), .int .u64 (loW (shrW v n))]) ∧ Below w.heap.size w w' := by
  by_cases z : n = 0
  · subst z
    have E1 := Lib.hid (shr_none v)
    go_enter Try.func207, Try.ntmps207
    go_wp2
    exact bodyPost_ret (v := .agg #[.int .i64 (hiW v), .int .u64 (loW v)]) (by simp [results, Try.results207, go_sem]) rfl ⟨by rw [E1.out], belB⟩
  · have z0 : (n == 0) = false := by simpa using z
    by_cases mid : n < 64
    · obtain ⟨e1, _, e2⟩ := shr_mid hv h0 mid
      have E1 := Lib.hid e1
      have E2 := Lib.hid e2
      clear e1 e2
      have h2 : 0 ≤ 64 - n := by omega
      go_enter Try.func207, Try.ntmps207
      go_wp2
      exact bodyPost_ret (v := .agg #[.int .i64 (hiW v / 2 ^ n.toNat), .int .u64 (bits BinOp.or IntKind.u64 (loW v / 2 ^ n.toNat) (IntKind.u64.wrap (IntKind.u64.wrap (hiW v) * 2 ^ (64 - n).toNat)))]) (by simp [results, Try.results207, go_sem]) rfl ⟨by rw [E1.out, E2.out], belB⟩
    · obtain ⟨e1, e2, i1⟩ := shr_far hv (show 64 ≤ n by omega) h1
      have E1 := Lib.hid e1
      have E2 := Lib.hid e2
      clear e1 e2
      go_enter Try.func207, Try.ntmps207
      go_wp2
      exact bodyPost_ret (v := .agg #[.int .i64 (hiW v / 9223372036854775808), .int .u64 (IntKind.u64.wrap (hiW v / 2 ^ (n - 64).toNat))]) (by simp [results, Try.results207, go_sem]) rfl ⟨by rw [wrapU, E1.out, E2.out], belB⟩
theorem l00In_yes (n lo hi : Int) (h0 : lo ≤ n) (h1 : n ≤ hi) (w : World) : Calls Try.prog 145 #[.int .i64 n, .int .i64 lo, .int .i64 hi] w fun e w' => e = .returned (.bool true) ∧ w = w' := by
  have a : (decide (lo ≤ n)) = true := decide_eq_true h0
  have b : (decide (n ≤ hi)) = true := decide_eq_true h1
  go_enter Try.func145, Try.ntmps145
  go_wp2
  go_ret
  exact ⟨rfl, rfl⟩
theorem l00In_no (n lo hi : Int) (h : n < lo ∨ hi < n) (w : World) : Calls Try.prog 145 #[.int .i64 n, .int .i64 lo, .int .i64 hi] w fun e w' => e = .returned (.bool false) ∧ w = w' := by
  by_cases a : lo ≤ n
  · have h' : ¬ n ≤ hi := by omega
    have b : (decide (n ≤ hi)) = false := decide_eq_false h'
    clear h
    go_enter Try.func145, Try.ntmps145
    go_wp2
    go_ret
    exact ⟨rfl, rfl⟩
  · have b : (decide (lo ≤ n)) = false := decide_eq_false a
    clear h
    go_enter Try.func145, Try.ntmps145
    go_wp2
    go_ret
    exact ⟨rfl, rfl⟩
end Go.Proofs.Ytmikjgbojknlnaa
namespace Go.Proofs.Ytmikjgbojknlnaa
open Go.ChangeShapes Go.WideShapes Go.ChangeAt Go.RowKit
set_option linter.unusedVariables false
set_option maxRecDepth 100000
set_option linter.unusedSimpArgs false
set_option maxHeartbeats 1000000

theorem add64_law (x y c : Int) (hx : InU x) (hy : InU y) (hc : c = 0 ∨ c = 1) (w : World) :
    (callFunc 198 #[.int .u64 x, .int .u64 y, .int .u64 c]).run Try.prog w = .ok (.value (.tuple #[.int .u64 (loW (x + y + c)), .int .u64 (carryW x y c)])) w := by
  obtain ⟨X, rfl⟩ : ∃ X : Nat, x = X := ⟨x.toNat, by unfold InU at hx; omega⟩
  obtain ⟨Y, rfl⟩ : ∃ Y : Nat, y = Y := ⟨y.toNat, by unfold InU at hy; omega⟩
  obtain ⟨C, rfl, hC⟩ : ∃ C : Nat, c = C ∧ C ≤ 1 := ⟨c.toNat, by omega, by omega⟩
  unfold InU at hx hy
  rw [run_callFunc_extern Try.func198 (by kernel_rfl) (by kernel_rfl) (by kernel_rfl) (e := add64Entry) (by kernel_rfl), run_add64 X Y C (by omega) (by omega) (by omega) (by omega)]
  simp only [Result.andThen]
  rfl
theorem sum_word {u v : Int} (hu : InW u) (hv : InW v) : wrap64 (loW (hiW (addW u v))) = hiW (addW u v) := lo_back (hiW_in (addW_in u v))
set_option maxHeartbeats 4000000 in
theorem WideAdd_any (u v : Int) (hu : InW u) (hv : InW v) (w : World) : Calls Try.prog 174 #[.agg #[.int .i64 (hiW u), .int .u64 (loW u)], .agg #[.int .i64 (hiW v), .int .u64 (loW v)]] w fun e w' =>
    e = .returned (.tuple #[.agg #[.int .i64 (hiW (sumW u v)), .int .u64 (loW (sumW u v))], .bool (sumOk u v)]) ∧ Below w.heap.size w w' := by
  have l1 := add_low u v
  have l2 := add_high hu hv
  have l3 := sum_word hu hv
  by_cases s0 : hiW u < 0
  · by_cases s1 : hiW v < 0
    · by_cases s2 : hiW (addW u v) < 0
      · have Da : decide (hiW u < 0) = true := by simpa using s0
        have Db : decide (hiW v < 0) = true := by simpa using s1
        have Dc : decide (hiW (addW u v) < 0) = true := by simpa using s2
        obtain ⟨e1, e2⟩ := sum_fits hu hv (.inr (by simp [s0, s2]))
        have E1 := Lib.hid e1
        have E2 := Lib.hid e2
        clear e1 e2
        go_enter Try.func174, Try.ntmps174
        go_wp2_with fail
        rw [add64_law (loW u) (loW v) 0 (loW_in u) (loW_in v) (.inl rfl)]
        go_wp2_with fail
        rw [wrapU, wrapU, add64_law (loW (hiW u)) (loW (hiW v)) (carryW (loW u) (loW v) 0) (loW_in _) (loW_in _) (carry_01 (loW_in u) (loW_in v) (.inl rfl))]
        go_wp2
        exact bodyPost_ret (v := .tuple #[.agg #[.int .i64 (hiW (addW u v)), .int .u64 (loW (addW u v))], .bool true]) (by simp [results, Try.results174, go_sem]) rfl ⟨by rw [E1.out, E2.out], belB⟩
      · have Da : decide (hiW u < 0) = true := by simpa using s0
        have Db : decide (hiW v < 0) = true := by simpa using s1
        have Dc : decide (hiW (addW u v) < 0) = false := by simpa using s2
        obtain ⟨e1, e2⟩ := sum_over hu hv (by simp [s0, s1]) (by simp [s0, s2])
        have E1 := Lib.hid e1
        have E2 := Lib.hid e2
        clear e1 e2
        go_enter Try.func174, Try.ntmps174
        go_wp2_with fail
        rw [add64_law (loW u) (loW v) 0 (loW_in u) (loW_in v) (.inl rfl)]
        go_wp2_with fail
        rw [wrapU, wrapU, add64_law (loW (hiW u)) (loW (hiW v)) (carryW (loW u) (loW v) 0) (loW_in _) (loW_in _) (carry_01 (loW_in u) (loW_in v) (.inl rfl))]
        go_wp2
        exact bodyPost_ret (v := .tuple #[.agg #[.int .i64 0, .int .u64 0], .bool false]) (by simp [results, Try.results174, go_sem]) rfl ⟨by rw [E1.out, E2.out]; rfl, belB⟩
    · by_cases s2 : hiW (addW u v) < 0
      · have Da : decide (hiW u < 0) = true := by simpa using s0
        have Db : decide (hiW v < 0) = false := by simpa using s1
        have Dc : decide (hiW (addW u v) < 0) = true := by simpa using s2
        obtain ⟨e1, e2⟩ := sum_fits hu hv (.inl (by simp [s0, s1]))
        have E1 := Lib.hid e1
        have E2 := Lib.hid e2
        clear e1 e2
        go_enter Try.func174, Try.ntmps174
        go_wp2_with fail
        rw [add64_law (loW u) (loW v) 0 (loW_in u) (loW_in v) (.inl rfl)]
        go_wp2_with fail
        rw [wrapU, wrapU, add64_law (loW (hiW u)) (loW (hiW v)) (carryW (loW u) (loW v) 0) (loW_in _) (loW_in _) (carry_01 (loW_in u) (loW_in v) (.inl rfl))]
        go_wp2
        exact bodyPost_ret (v := .tuple #[.agg #[.int .i64 (hiW (addW u v)), .int .u64 (loW (addW u v))], .bool true]) (by simp [results, Try.results174, go_sem]) rfl ⟨by rw [E1.out, E2.out], belB⟩
      · have Da : decide (hiW u < 0) = true := by simpa using s0
        have Db : decide (hiW v < 0) = false := by simpa using s1
        have Dc : decide (hiW (addW u v) < 0) = false := by simpa using s2
        obtain ⟨e1, e2⟩ := sum_fits hu hv (.inl (by simp [s0, s1]))
        have E1 := Lib.hid e1
        have E2 := Lib.hid e2
        clear e1 e2
        go_enter Try.func174, Try.ntmps174
        go_wp2_with fail
        rw [add64_law (loW u) (loW v) 0 (loW_in u) (loW_in v) (.inl rfl)]
        go_wp2_with fail
        rw [wrapU, wrapU, add64_law (loW (hiW u)) (loW (hiW v)) (carryW (loW u) (loW v) 0) (loW_in _) (loW_in _) (carry_01 (loW_in u) (loW_in v) (.inl rfl))]
        go_wp2
        exact bodyPost_ret (v := .tuple #[.agg #[.int .i64 (hiW (addW u v)), .int .u64 (loW (addW u v))], .bool true]) (by simp [results, Try.results174, go_sem]) rfl ⟨by rw [E1.out, E2.out], belB⟩
  · by_cases s1 : hiW v < 0
    · by_cases s2 : hiW (addW u v) < 0
      · have Da : decide (hiW u < 0) = false := by simpa using s0
        have Db : decide (hiW v < 0) = true := by simpa using s1
        have Dc : decide (hiW (addW u v) < 0) = true := by simpa using s2
        obtain ⟨e1, e2⟩ := sum_fits hu hv (.inl (by simp [s0, s1]))
        have E1 := Lib.hid e1
        have E2 := Lib.hid e2
        clear e1 e2
        go_enter Try.func174, Try.ntmps174
        go_wp2_with fail
        rw [add64_law (loW u) (loW v) 0 (loW_in u) (loW_in v) (.inl rfl)]
        go_wp2_with fail
        rw [wrapU, wrapU, add64_law (loW (hiW u)) (loW (hiW v)) (carryW (loW u) (loW v) 0) (loW_in _) (loW_in _) (carry_01 (loW_in u) (loW_in v) (.inl rfl))]
        go_wp2
        exact bodyPost_ret (v := .tuple #[.agg #[.int .i64 (hiW (addW u v)), .int .u64 (loW (addW u v))], .bool true]) (by simp [results, Try.results174, go_sem]) rfl ⟨by rw [E1.out, E2.out], belB⟩
      · have Da : decide (hiW u < 0) = false := by simpa using s0
        have Db : decide (hiW v < 0) = true := by simpa using s1
        have Dc : decide (hiW (addW u v) < 0) = false := by simpa using s2
        obtain ⟨e1, e2⟩ := sum_fits hu hv (.inl (by simp [s0, s1]))
        have E1 := Lib.hid e1
        have E2 := Lib.hid e2
        clear e1 e2
        go_enter Try.func174, Try.ntmps174
        go_wp2_with fail
        rw [add64_law (loW u) (loW v) 0 (loW_in u) (loW_in v) (.inl rfl)]
        go_wp2_with fail
        rw [wrapU, wrapU, add64_law (loW (hiW u)) (loW (hiW v)) (carryW (loW u) (loW v) 0) (loW_in _) (loW_in _) (carry_01 (loW_in u) (loW_in v) (.inl rfl))]
        go_wp2
        exact bodyPost_ret (v := .tuple #[.agg #[.int .i64 (hiW (addW u v)), .int .u64 (loW (addW u v))], .bool true]) (by simp [results, Try.results174, go_sem]) rfl ⟨by rw [E1.out, E2.out], belB⟩
    · by_cases s2 : hiW (addW u v) < 0
      · have Da : decide (hiW u < 0) = false := by simpa using s0
        have Db : decide (hiW v < 0) = false := by simpa using s1
        have Dc : decide (hiW (addW u v) < 0) = true := by simpa using s2
        obtain ⟨e1, e2⟩ := sum_over hu hv (by simp [s0, s1]) (by simp [s0, s2])
        have E1 := Lib.hid e1
        have E2 := Lib.hid e2
        clear e1 e2
        go_enter Try.func174, Try.ntmps174
        go_wp2_with fail
        rw [add64_law (loW u) (loW v) 0 (loW_in u) (loW_in v) (.inl rfl)]
        go_wp2_with fail
        rw [wrapU, wrapU, add64_law (loW (hiW u)) (loW (hiW v)) (carryW (loW u) (loW v) 0) (loW_in _) (loW_in _) (carry_01 (loW_in u) (loW_in v) (.inl rfl))]
        go_wp2
        exact bodyPost_ret (v := .tuple #[.agg #[.int .i64 0, .int .u64 0], .bool false]) (by simp [results, Try.results174, go_sem]) rfl ⟨by rw [E1.out, E2.out]; rfl, belB⟩
      · have Da : decide (hiW u < 0) = false := by simpa using s0
        have Db : decide (hiW v < 0) = false := by simpa using s1
        have Dc : decide (hiW (addW u v) < 0) = false := by simpa using s2
        obtain ⟨e1, e2⟩ := sum_fits hu hv (.inr (by simp [s0, s2]))
        have E1 := Lib.hid e1
        have E2 := Lib.hid e2
        clear e1 e2
        go_enter Try.func174, Try.ntmps174
        go_wp2_with fail
        rw [add64_law (loW u) (loW v) 0 (loW_in u) (loW_in v) (.inl rfl)]
        go_wp2_with fail
        rw [wrapU, wrapU, add64_law (loW (hiW u)) (loW (hiW v)) (carryW (loW u) (loW v) 0) (loW_in _) (loW_in _) (carry_01 (loW_in u) (loW_in v) (.inl rfl))]
        go_wp2
        exact bodyPost_ret (v := .tuple #[.agg #[.int .i64 (hiW (addW u v)), .int .u64 (loW (addW u v))], .bool true]) (by simp [results, Try.results174, go_sem]) rfl ⟨by rw [E1.out, E2.out], belB⟩
end Go.Proofs.Ytmikjgbojknlnaa
namespace Go.Proofs.Ytmikjgbojknlnaa
open Go.ChangeShapes Go.WideShapes Go.ChangeAt Go.RowKit
set_option linter.unusedVariables false
set_option maxRecDepth 100000
set_option linter.unusedSimpArgs false
set_option maxHeartbeats 1000000

/-- A product, divided by a power of 2: the number, and whether it is an int64. -/
def mfI (a b s : Int) : Int := if 0 ≤ s ∧ s ≤ 126 then intW (shrW (a * b) s) else 0
def mfB (a b s : Int) : Bool := if 0 ≤ s ∧ s ≤ 126 then okW (shrW (a * b) s) else false
theorem sMulFloor_any (a b s : Int) (ha : In64 a) (hb : In64 b) (hs : In64 s) (w : World) : Calls Try.prog 188 #[.int .i64 a, .int .i64 b, .int .i64 s] w fun e w' =>
    e = .returned (.tuple #[.int .i64 (mfI a b s), .bool (mfB a b s)]) ∧ Below w.heap.size w w' := by
  by_cases c : 0 ≤ s ∧ s ≤ 126
  · have E1 := Lib.hid (show mfI a b s = intW (shrW (a * b) s) from if_pos c)
    have E2 := Lib.hid (show mfB a b s = okW (shrW (a * b) s) from if_pos c)
    obtain ⟨c0, c1⟩ := c
    go_enter Try.func188, Try.ntmps188
    go_wp2_with fail
    refine (l00In_yes s 0 126 c0 c1 _).mono ?_
    rintro e w1 ⟨rfl, rfl⟩
    go_wp2_with fail
    refine (l02Mul_any a b ha hb _).mono ?_
    rintro e w1 ⟨rfl, hb1⟩
    have hs1 : _ ≤ w1.heap.size := hb1.size
    try simp at hs1
    go_wp2_with fail
    refine (l02Shift_any (a * b) s (mul_in ha hb) c0 (by omega) _).mono ?_
    rintro e w2 ⟨rfl, hb2⟩
    have hs2 : _ ≤ w2.heap.size := hb2.size
    try simp at hs2
    go_wp2_with fail
    refine (l02Int_any (shrW (a * b) s) (shr_in (mul_in ha hb) s) _).mono ?_
    rintro e w3 ⟨rfl, hb3⟩
    have hs3 : _ ≤ w3.heap.size := hb3.size
    try simp at hs3
    go_wp2
    go_ret2
    exact ⟨by simp [E1.out, E2.out], belB⟩
  · have E1 := Lib.hid (show mfI a b s = 0 from if_neg c)
    have E2 := Lib.hid (show mfB a b s = false from if_neg c)
    have c' : s < 0 ∨ 126 < s := by omega
    clear c
    go_enter Try.func188, Try.ntmps188
    go_wp2_with fail
    refine (l00In_no s 0 126 c' _).mono ?_
    rintro e w1 ⟨rfl, rfl⟩
    go_wp2
    go_ret2
    exact ⟨by simp [E1.out, E2.out], belB⟩
end Go.Proofs.Ytmikjgbojknlnaa
