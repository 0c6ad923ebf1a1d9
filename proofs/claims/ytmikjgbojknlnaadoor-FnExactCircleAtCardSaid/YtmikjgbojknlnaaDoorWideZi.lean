/- Contracts of the number of binary digits of a uint64 and of its leading zeros. Conditions: the number is a uint64. The contract of math/bits.Div64. Conditions: uint64 numbers, the high half less than the divisor. -/
import Derived.Test.YtmikjgbojknlnaaDoorWideZe
import Derived.Lib.BitFns
import Derived.Lib.Strings
import Derived.Lib.Slices
import Derived.Lib.Walk
import Derived.Lib.Small
import Derived.Test.YtmikjgbojknlnaaDoorNumZ
import Derived.Deep.QuietTactic
import Derived.BigQuiet
import Derived.Outline
import Derived.Deep.LoopGhost
namespace Go.Proofs.YtmikjgbojknlnaaDoor
open Go.ChangeShapes Go.WideShapes Go.ChangeAt Go.RowKit
set_option linter.unusedVariables false
set_option maxRecDepth 100000
set_option linter.unusedSimpArgs false
set_option maxHeartbeats 1000000

/-- The number of binary digits of x. -/
def lenW (x : Int) : Int := (Lib.bitLen x.toNat : Int)
set_option maxHeartbeats 4000000 in
set_option maxRecDepth 100000 in
theorem Len64_any (x : Int) (hx : InU x) (w : World) : Calls Tryd.prog 36 #[.int .u64 x] w fun e w' =>
    e = .returned (.int .i64 (lenW x)) ∧ w = w' := by
  have h0 : 0 ≤ x := hx.1
  have h1 : x ≤ 18446744073709551615 := hx.2
  clear hx
  by_cases c3 : 4294967296 ≤ x
  · by_cases c2 : 65536 ≤ x / 4294967296
    · by_cases c1 : 256 ≤ x / 4294967296 / 65536
      · have f0 : 0 ≤ x / 4294967296 / 65536 / 256 := by omega
        have f1 : x / 4294967296 / 65536 / 256 ≤ 255 := by omega
        have E := Lib.hid (show ((56 : Int) + Lib.len8 (x / 4294967296 / 65536 / 256)) = lenW x by
          have q : (x / 4294967296 / 65536 / 256).toNat = x.toNat / 72057594037927936 := by omega
          unfold lenW
          rw [Lib.len8_of (x / 4294967296 / 65536 / 256) (by omega) (by omega), q]
          have sh := Lib.bitLen_shift56 x.toNat (by omega) (by omega)
          omega)
        have L := Lib.bitLen_le8' (x / 4294967296 / 65536 / 256) (by omega) (by omega)
        have M := Lib.hid (Lib.len8_of (x / 4294967296 / 65536 / 256) (by omega) (by omega))
        have b0 : 0 ≤ Lib.len8 (x / 4294967296 / 65536 / 256) := by rw [M.out]; omega
        have b1 : Lib.len8 (x / 4294967296 / 65536 / 256) ≤ 8 := by rw [M.out]; omega
        clear L
        go_enter Tryd.func36, Tryd.ntmps36
        go_wp2
        go_ret
        exact ⟨by rw [← E.out]; simp, rfl⟩
      · have f0 : 0 ≤ x / 4294967296 / 65536 := by omega
        have f1 : x / 4294967296 / 65536 ≤ 255 := by omega
        have E := Lib.hid (show ((48 : Int) + Lib.len8 (x / 4294967296 / 65536)) = lenW x by
          have q : (x / 4294967296 / 65536).toNat = x.toNat / 281474976710656 := by omega
          unfold lenW
          rw [Lib.len8_of (x / 4294967296 / 65536) (by omega) (by omega), q]
          have sh := Lib.bitLen_shift48 x.toNat (by omega) (by omega)
          omega)
        have L := Lib.bitLen_le8' (x / 4294967296 / 65536) (by omega) (by omega)
        have M := Lib.hid (Lib.len8_of (x / 4294967296 / 65536) (by omega) (by omega))
        have b0 : 0 ≤ Lib.len8 (x / 4294967296 / 65536) := by rw [M.out]; omega
        have b1 : Lib.len8 (x / 4294967296 / 65536) ≤ 8 := by rw [M.out]; omega
        clear L
        go_enter Tryd.func36, Tryd.ntmps36
        go_wp2
        go_ret
        exact ⟨by rw [← E.out]; simp, rfl⟩
    · by_cases c1 : 256 ≤ x / 4294967296
      · have f0 : 0 ≤ x / 4294967296 / 256 := by omega
        have f1 : x / 4294967296 / 256 ≤ 255 := by omega
        have E := Lib.hid (show ((40 : Int) + Lib.len8 (x / 4294967296 / 256)) = lenW x by
          have q : (x / 4294967296 / 256).toNat = x.toNat / 1099511627776 := by omega
          unfold lenW
          rw [Lib.len8_of (x / 4294967296 / 256) (by omega) (by omega), q]
          have sh := Lib.bitLen_shift40 x.toNat (by omega) (by omega)
          omega)
        have L := Lib.bitLen_le8' (x / 4294967296 / 256) (by omega) (by omega)
        have M := Lib.hid (Lib.len8_of (x / 4294967296 / 256) (by omega) (by omega))
        have b0 : 0 ≤ Lib.len8 (x / 4294967296 / 256) := by rw [M.out]; omega
        have b1 : Lib.len8 (x / 4294967296 / 256) ≤ 8 := by rw [M.out]; omega
        clear L
        go_enter Tryd.func36, Tryd.ntmps36
        go_wp2
        go_ret
        exact ⟨by rw [← E.out]; simp, rfl⟩
      · have f0 : 0 ≤ x / 4294967296 := by omega
        have f1 : x / 4294967296 ≤ 255 := by omega
        have E := Lib.hid (show ((32 : Int) + Lib.len8 (x / 4294967296)) = lenW x by
          have q : (x / 4294967296).toNat = x.toNat / 4294967296 := by omega
          unfold lenW
          rw [Lib.len8_of (x / 4294967296) (by omega) (by omega), q]
          have sh := Lib.bitLen_shift32 x.toNat (by omega) (by omega)
          omega)
        have L := Lib.bitLen_le8' (x / 4294967296) (by omega) (by omega)
        have M := Lib.hid (Lib.len8_of (x / 4294967296) (by omega) (by omega))
        have b0 : 0 ≤ Lib.len8 (x / 4294967296) := by rw [M.out]; omega
        have b1 : Lib.len8 (x / 4294967296) ≤ 8 := by rw [M.out]; omega
        clear L
        go_enter Tryd.func36, Tryd.ntmps36
        go_wp2
        go_ret
        exact ⟨by rw [← E.out]; simp, rfl⟩
  · by_cases c2 : 65536 ≤ x
    · by_cases c1 : 256 ≤ x / 65536
      · have f0 : 0 ≤ x / 65536 / 256 := by omega
        have f1 : x / 65536 / 256 ≤ 255 := by omega
        have E := Lib.hid (show ((24 : Int) + Lib.len8 (x / 65536 / 256)) = lenW x by
          have q : (x / 65536 / 256).toNat = x.toNat / 16777216 := by omega
          unfold lenW
          rw [Lib.len8_of (x / 65536 / 256) (by omega) (by omega), q]
          have sh := Lib.bitLen_shift24 x.toNat (by omega) (by omega)
          omega)
        have L := Lib.bitLen_le8' (x / 65536 / 256) (by omega) (by omega)
        have M := Lib.hid (Lib.len8_of (x / 65536 / 256) (by omega) (by omega))
        have b0 : 0 ≤ Lib.len8 (x / 65536 / 256) := by rw [M.out]; omega
        have b1 : Lib.len8 (x / 65536 / 256) ≤ 8 := by rw [M.out]; omega
        clear L
        go_enter Tryd.func36, Tryd.ntmps36
        go_wp2
        go_ret
        exact ⟨by rw [← E.out]; simp, rfl⟩
      · have f0 : 0 ≤ x / 65536 := by omega
        have f1 : x / 65536 ≤ 255 := by omega
        have E := Lib.hid (show ((16 : Int) + Lib.len8 (x / 65536)) = lenW x by
          have q : (x / 65536).toNat = x.toNat / 65536 := by omega
          unfold lenW
          rw [Lib.len8_of (x / 65536) (by omega) (by omega), q]
          have sh := Lib.bitLen_shift16 x.toNat (by omega) (by omega)
          omega)
        have L := Lib.bitLen_le8' (x / 65536) (by omega) (by omega)
        have M := Lib.hid (Lib.len8_of (x / 65536) (by omega) (by omega))
        have b0 : 0 ≤ Lib.len8 (x / 65536) := by rw [M.out]; omega
        have b1 : Lib.len8 (x / 65536) ≤ 8 := by rw [M.out]; omega
        clear L
        go_enter Tryd.func36, Tryd.ntmps36
        go_wp2
        go_ret
        exact ⟨by rw [← E.out]; simp, rfl⟩
    · by_cases c1 : 256 ≤ x
      · have f0 : 0 ≤ x / 256 := by omega
        have f1 : x / 256 ≤ 255 := by omega
        have E := Lib.hid (show ((8 : Int) + Lib.len8 (x / 256)) = lenW x by
          have q : (x / 256).toNat = x.toNat / 256 := by omega
          unfold lenW
          rw [Lib.len8_of (x / 256) (by omega) (by omega), q]
          have sh := Lib.bitLen_shift8 x.toNat (by omega) (by omega)
          omega)
        have L := Lib.bitLen_le8' (x / 256) (by omega) (by omega)
        have M := Lib.hid (Lib.len8_of (x / 256) (by omega) (by omega))
        have b0 : 0 ≤ Lib.len8 (x / 256) := by rw [M.out]; omega
        have b1 : Lib.len8 (x / 256) ≤ 8 := by rw [M.out]; omega
        clear L
        go_enter Tryd.func36, Tryd.ntmps36
        go_wp2
        go_ret
        exact ⟨by rw [← E.out]; simp, rfl⟩
      · have f0 : 0 ≤ x := by omega
        have f1 : x ≤ 255 := by omega
        have E := Lib.hid (show ((0 : Int) + Lib.len8 (x)) = lenW x by
          have q : (x).toNat = x.toNat := by omega
          unfold lenW
          rw [Lib.len8_of (x) (by omega) (by omega), q]
          omega)
        have L := Lib.bitLen_le8' (x) (by omega) (by omega)
        have M := Lib.hid (Lib.len8_of (x) (by omega) (by omega))
        have b0 : 0 ≤ Lib.len8 (x) := by rw [M.out]; omega
        have b1 : Lib.len8 (x) ≤ 8 := by rw [M.out]; omega
        clear L
        go_enter Tryd.func36, Tryd.ntmps36
        go_wp2
        go_ret
        exact ⟨by rw [← E.out]; simp, rfl⟩
theorem lenW_spec {x : Int} (hx : InU x) (h : 1 ≤ x) : ∃ n : Nat, lenW x = (n : Int) + 1 ∧ n ≤ 63 ∧ 2 ^ n ≤ x ∧ x < 2 ^ (n + 1) := by
  obtain ⟨X, rfl⟩ : ∃ X : Nat, x = X := ⟨x.toNat, by omega⟩
  unfold InU at hx
  unfold lenW
  rw [Int.toNat_natCast]
  have hX : X < 2 ^ 64 := by omega
  have pos : Lib.bitLen X = 1 + Lib.bitLen (X / 2) := Lib.bitLen_half X (by omega) hX
  have le := Lib.bitLen_le X 64 (by omega) hX
  refine ⟨Lib.bitLen X - 1, by omega, by omega, ?_, ?_⟩
  · by_cases c : 2 ^ (Lib.bitLen X - 1) ≤ X
    · exact_mod_cast c
    · have := Lib.bitLen_le X (Lib.bitLen X - 1) (by omega) (by omega)
      omega
  · rw [show Lib.bitLen X - 1 + 1 = Lib.bitLen X by omega]
    by_cases c : 2 ^ Lib.bitLen X ≤ X
    · have s := Lib.bitLen_shift (Lib.bitLen X) X c hX
      have one : 1 ≤ X / 2 ^ Lib.bitLen X := (Nat.le_div_iff_mul_le (Nat.pow_pos (by decide))).2 (by omega)
      have z := Lib.bitLen_half (X / 2 ^ Lib.bitLen X) (by omega) (Nat.lt_of_le_of_lt (Nat.div_le_self _ _) hX)
      omega
    · have c' : X < 2 ^ Lib.bitLen X := by omega
      exact_mod_cast c'
theorem lenW_in {x : Int} (hx : InU x) : 0 ≤ lenW x ∧ lenW x ≤ 64 := by
  unfold InU at hx
  have := Lib.bitLen_le x.toNat 64 (by omega) (by omega)
  unfold lenW; omega
end Go.Proofs.YtmikjgbojknlnaaDoor
namespace Go.Proofs.YtmikjgbojknlnaaDoor
open Go.ChangeShapes Go.WideShapes Go.ChangeAt Go.RowKit
set_option linter.unusedVariables false
set_option maxRecDepth 100000
set_option linter.unusedSimpArgs false
set_option maxHeartbeats 1000000

end Go.Proofs.YtmikjgbojknlnaaDoor
