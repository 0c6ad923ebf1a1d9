/- Contracts of shifts, sums, negatives and comparisons of wide integers, program and model alike. Conditions: numbers are int64 or Wide. -/
import Derived.Test.YtfikgbamnlmglaaWideD
import Derived.Test.YtfikgbamnlmglaaNumD
import Derived.BigRegion
import Derived.BigQuiet
import Derived.Outline
namespace Go.Proofs.Ytfikgbamnlmglaa
open Go.ChangeShapes Go.WideShapes Go.ChangeAt Go.RowKit
set_option linter.unusedVariables false
set_option maxRecDepth 100000

theorem shr_mid {v n : Int} (hv : InW v) (h0 : 0 ≤ n) (h1 : n < 64) :
    hiW v / 2 ^ n.toNat = hiW (shrW v n) ∧
    bits .or .u64 (IntKind.u64.wrap (IntKind.u64.wrap (hiW v) * 2 ^ (64 - n).toNat)) (loW v / 2 ^ n.toNat) = loW (shrW v n) ∧
    bits .or .u64 (loW v / 2 ^ n.toNat) (IntKind.u64.wrap (IntKind.u64.wrap (hiW v) * 2 ^ (64 - n).toNat)) = loW (shrW v n) := by
  have e : shrW v n = v / 2 ^ n.toNat := if_pos (by omega)
  have k : (64 - n).toNat = 64 - n.toNat := by omega
  rw [e, k, wrapU, wrapU]
  obtain ⟨a, b⟩ := lo_div hv n.toNat (by omega)
  exact ⟨(hi_div v _).symm, a, b⟩
theorem shr_far {v n : Int} (hv : InW v) (h0 : 64 ≤ n) (h1 : n ≤ 127) :
    hiW v / 2 ^ (n - 64).toNat = shrW v n ∧ hiW v / 9223372036854775808 = hiW (shrW v n) ∧ In64 (shrW v n) := by
  have e : shrW v n = hiW v / 2 ^ (n - 64).toNat := by
    unfold shrW
    rw [if_pos (by omega), ← div_high, show 64 + (n - 64).toNat = n.toNat by omega]
  rw [e]
  exact ⟨rfl, (hi_sign hv _).symm, hi_in64 hv _⟩
theorem shr_none (v : Int) : shrW v 0 = v := by
  have e : shrW v 0 = v / 2 ^ (0 : Int).toNat := if_pos (by omega)
  rw [e]; simp
theorem shr_out {v n : Int} (h : ¬ (0 ≤ n ∧ n ≤ 127)) : hiW (shrW v n) = 0 ∧ loW (shrW v n) = 0 := by
  have e : shrW v n = 0 := if_neg h
  rw [e]; exact ⟨rfl, rfl⟩
theorem l02Shift_any (v n : Int) (hv : InW v) (h0 : 0 ≤ n) (h1 : n ≤ 127) (w : World) : Calls Try.prog 156 #[.agg #[.int .i64 (hiW v), .int .u64 (loW v)], .int .i64 n] w fun e w' =>
    e = .returned (.agg #[.int .i64 (hiW (shrW v n)), .int .u64 (loW (shrW v n))]) ∧ Below w.heap.size w w' := by
  by_cases z : n = 0
  · subst z
    have E1 := Lib.hid (shr_none v)
    go_enter Try.func156, Try.ntmps156
    go_wp2
    exact bodyPost_ret (v := .agg #[.int .i64 (hiW v), .int .u64 (loW v)]) (by simp [results, Try.results156, go_sem]) rfl ⟨by rw [E1.out], (by repeat (first | exact Below.refl _ _ | refine Below.drew ?_ | refine Below.setCell ?_ (by first | omega | (simp; done) | (simp; omega)) _ | refine Below.alloc ?_ (by first | omega | (simp; done) | (simp; omega)) _ | refine Below.trans ?_ (Below.mono (by assumption) (by first | omega | (simp; done) | (simp; omega)))))⟩
  · have z0 : (n == 0) = false := by simpa using z
    by_cases mid : n < 64
    · obtain ⟨e1, _, e2⟩ := shr_mid hv h0 mid
      have E1 := Lib.hid e1
      have E2 := Lib.hid e2
      clear e1 e2
      have h2 : 0 ≤ 64 - n := by omega
      go_enter Try.func156, Try.ntmps156
      go_wp2
      exact bodyPost_ret (v := .agg #[.int .i64 (hiW v / 2 ^ n.toNat), .int .u64 (bits BinOp.or IntKind.u64 (loW v / 2 ^ n.toNat) (IntKind.u64.wrap (IntKind.u64.wrap (hiW v) * 2 ^ (64 - n).toNat)))]) (by simp [results, Try.results156, go_sem]) rfl ⟨by rw [E1.out, E2.out], (by repeat (first | exact Below.refl _ _ | refine Below.drew ?_ | refine Below.setCell ?_ (by first | omega | (simp; done) | (simp; omega)) _ | refine Below.alloc ?_ (by first | omega | (simp; done) | (simp; omega)) _ | refine Below.trans ?_ (Below.mono (by assumption) (by first | omega | (simp; done) | (simp; omega)))))⟩
    · obtain ⟨e1, e2, i1⟩ := shr_far hv (show 64 ≤ n by omega) h1
      have E1 := Lib.hid e1
      have E2 := Lib.hid e2
      clear e1 e2
      go_enter Try.func156, Try.ntmps156
      go_wp2
      exact bodyPost_ret (v := .agg #[.int .i64 (hiW v / 9223372036854775808), .int .u64 (IntKind.u64.wrap (hiW v / 2 ^ (n - 64).toNat))]) (by simp [results, Try.results156, go_sem]) rfl ⟨by rw [wrapU, E1.out, E2.out], (by repeat (first | exact Below.refl _ _ | refine Below.drew ?_ | refine Below.setCell ?_ (by first | omega | (simp; done) | (simp; omega)) _ | refine Below.alloc ?_ (by first | omega | (simp; done) | (simp; omega)) _ | refine Below.trans ?_ (Below.mono (by assumption) (by first | omega | (simp; done) | (simp; omega)))))⟩
theorem l00In_yes (n lo hi : Int) (h0 : lo ≤ n) (h1 : n ≤ hi) (w : World) : Calls Try.prog 128 #[.int .i64 n, .int .i64 lo, .int .i64 hi] w fun e w' => e = .returned (.bool true) ∧ w = w' := by
  have a : (decide (lo ≤ n)) = true := decide_eq_true h0
  have b : (decide (n ≤ hi)) = true := decide_eq_true h1
  go_enter Try.func128, Try.ntmps128
  go_wp2
  go_ret
  exact ⟨rfl, rfl⟩
theorem l00In_no (n lo hi : Int) (h : n < lo ∨ hi < n) (w : World) : Calls Try.prog 128 #[.int .i64 n, .int .i64 lo, .int .i64 hi] w fun e w' => e = .returned (.bool false) ∧ w = w' := by
  by_cases a : lo ≤ n
  · have h' : ¬ n ≤ hi := by omega
    have b : (decide (n ≤ hi)) = false := decide_eq_false h'
    clear h
    go_enter Try.func128, Try.ntmps128
    go_wp2
    go_ret
    exact ⟨rfl, rfl⟩
  · have b : (decide (lo ≤ n)) = false := decide_eq_false a
    clear h
    go_enter Try.func128, Try.ntmps128
    go_wp2
    go_ret
    exact ⟨rfl, rfl⟩
end Go.Proofs.Ytfikgbamnlmglaa
