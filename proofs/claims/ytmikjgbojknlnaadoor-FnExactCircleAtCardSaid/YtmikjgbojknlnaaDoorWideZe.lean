/- Contracts of shifts, sums, negatives and comparisons of wide integers, program and model alike. Conditions: numbers are int64 or Wide. Contracts of sums and negatives of wide integers, program and model alike, and the laws of WideAdd and WideNeg. Conditions: numbers are Wide. Contracts of MulFloor, program and model alike, and its law. Conditions: numbers are int64. -/
import Derived.Test.YtmikjgbojknlnaaDoorWideZa
import Derived.Test.YtmikjgbojknlnaaDoorNumZ
import Derived.BigRegion
import Derived.BigQuiet
import Derived.Outline
namespace Go.Proofs.YtmikjgbojknlnaaDoor
open Go.ChangeShapes Go.WideShapes Go.ChangeAt Go.RowKit
set_option linter.unusedVariables false
set_option maxRecDepth 100000
set_option linter.unusedSimpArgs false
set_option maxHeartbeats 1000000

theorem shr_mid {v n : Int} (hv : InW v) (h0 : 0 ≤ n) (h1 : n < 64) :
    hiW v / 2 ^ n.toNat = hiW (shrW v n) ∧
    bits .or .u64 (IntKind.u64.wrap (IntKind.u64.wrap (hiW v) * 2 ^ (64 - n).toNat)) (loW v / 2 ^ n.toNat) = loW (shrW v n) ∧
    bits .or .u64 (loW v / 2 ^ n.toNat) (IntKind.u64.wrap (IntKind.u64.wrap (hiW v) * 2 ^ (64 - n).toNat)) = loW (shrW v n) := by
  have e : shrW v n = v / 2 ^ n.toNat := if_pos (by omega)
  have k : (64 - n).toNat = 64 - n.toNat := by omega
  rw [e, k, wrapU, wrapU]
  obtain ⟨a, b⟩ := lo_div hv n.toNat (by omega)
  exact ⟨(hi_div v _).symm, a, b⟩
theorem shr_far {v n : Int} (hv : InW v) (h0 : 64 ≤ n) (h1 : n ≤ 127) :
    hiW v / 2 ^ (n - 64).toNat = shrW v n ∧ hiW v / 9223372036854775808 = hiW (shrW v n) ∧ In64 (shrW v n) := by
  have e : shrW v n = hiW v / 2 ^ (n - 64).toNat := by
    unfold shrW
    rw [if_pos (by omega), ← div_high, show 64 + (n - 64).toNat = n.toNat by omega]
  rw [e]
  exact ⟨rfl, (hi_sign hv _).symm, hi_in64 hv _⟩
theorem shr_none (v : Int) : shrW v 0 = v := by
  have e : shrW v 0 = v / 2 ^ (0 : Int).toNat := if_pos (by omega)
  rw [e]; simp
theorem shr_out {v n : Int} (h : ¬ (0 ≤ n ∧ n ≤ 127)) : hiW (shrW v n) = 0 ∧ loW (shrW v n) = 0 := by
  have e : shrW v n = 0 := if_neg h
  rw [e]; exact ⟨rfl, rfl⟩
theorem l00In_yes (n lo hi : Int) (h0 : lo ≤ n) (h1 : n ≤ hi) (w : World) : Calls Tryd.prog 7 #[.int .i64 n, .int .i64 lo, .int .i64 hi] w fun e w' => e = .returned (.bool true) ∧ w = w' := by
  have a : (decide (lo ≤ n)) = true := decide_eq_true h0
  have b : (decide (n ≤ hi)) = true := decide_eq_true h1
  go_enter Tryd.func7, Tryd.ntmps7
  go_wp2
  go_ret
  exact ⟨rfl, rfl⟩
theorem l00In_no (n lo hi : Int) (h : n < lo ∨ hi < n) (w : World) : Calls Tryd.prog 7 #[.int .i64 n, .int .i64 lo, .int .i64 hi] w fun e w' => e = .returned (.bool false) ∧ w = w' := by
  by_cases a : lo ≤ n
  · have h' : ¬ n ≤ hi := by omega
    have b : (decide (n ≤ hi)) = false := decide_eq_false h'
    clear h
    go_enter Tryd.func7, Tryd.ntmps7
    go_wp2
    go_ret
    exact ⟨rfl, rfl⟩
  · have b : (decide (lo ≤ n)) = false := decide_eq_false a
    clear h
    go_enter Tryd.func7, Tryd.ntmps7
    go_wp2
    go_ret
    exact ⟨rfl, rfl⟩
end Go.Proofs.YtmikjgbojknlnaaDoor
namespace Go.Proofs.YtmikjgbojknlnaaDoor
open Go.ChangeShapes Go.WideShapes Go.ChangeAt Go.RowKit
set_option linter.unusedVariables false
set_option maxRecDepth 100000
set_option linter.unusedSimpArgs false
set_option maxHeartbeats 1000000

end Go.Proofs.YtmikjgbojknlnaaDoor
namespace Go.Proofs.YtmikjgbojknlnaaDoor
open Go.ChangeShapes Go.WideShapes Go.ChangeAt Go.RowKit
set_option linter.unusedVariables false
set_option maxRecDepth 100000
set_option linter.unusedSimpArgs false
set_option maxHeartbeats 1000000

/-- A product, divided by a power of 2: the number, and whether it is an int64. -/
def mfI (a b s : Int) : Int := if 0 ≤ s ∧ s ≤ 126 then intW (shrW (a * b) s) else 0
def mfB (a b s : Int) : Bool := if 0 ≤ s ∧ s ≤ 126 then okW (shrW (a * b) s) else false
end Go.Proofs.YtmikjgbojknlnaaDoor
