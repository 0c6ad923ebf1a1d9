/- Contracts of the number of binary digits of a uint64 and of its leading zeros. Conditions: the number is a uint64. The contract of math/bits.Div64. Conditions: uint64 numbers, the high half less than the divisor. -/
import Derived.Test.YtmikjgbojknlnaaWideZe
import Derived.Lib.BitFns
import Derived.Lib.Strings
import Derived.Lib.Slices
import Derived.Lib.Walk
import Derived.Lib.Small
import Derived.Test.YtmikjgbojknlnaaNumZ
import Derived.Deep.QuietTactic
import Derived.BigQuiet
import Derived.Outline
import Derived.Deep.LoopGhost
namespace Go.Proofs.Ytmikjgbojknlnaa
open Go.ChangeShapes Go.WideShapes Go.ChangeAt Go.RowKit
set_option linter.unusedVariables false
set_option maxRecDepth 100000
set_option linter.unusedSimpArgs false
set_option maxHeartbeats 1000000

/-- The number of binary digits of x. -/
def lenW (x : Int) : Int := (Lib.bitLen x.toNat : Int)
set_option maxHeartbeats 4000000 in
set_option maxRecDepth 100000 in
theorem Len64_any (x : Int) (hx : InU x) (w : World) : Calls Try.prog 212 #[.int .u64 x] w fun e w' =>
    e = .returned (.int .i64 (lenW x)) ∧ w = w' := by
  have h0 : 0 ≤ x := hx.1
  have h1 : x ≤ 18446744073709551615 := hx.2
  clear hx
  by_cases c3 : 4294967296 ≤ x
  · by_cases c2 : 65536 ≤ x / 4294967296
    · by_cases c1 : 256 ≤ x / 4294967296 / 65536
      · have f0 : 0 ≤ x / 4294967296 / 65536 / 256 := by omega
        have f1 : x / 4294967296 / 65536 / 256 ≤ 255 := by omega
        have E := Lib.hid (show ((56 : Int) + Lib.len8 (x / 4294967296 / 65536 / 256)) = lenW x by
          have q : (x / 4294967296 / 65536 / 256).toNat = x.toNat / 72057594037927936 := by omega
          unfold lenW
          rw [Lib.len8_of (x / 4294967296 / 65536 / 256) (by omega) (by omega), q]
          have sh := Lib.bitLen_shift56 x.toNat (by omega) (by omega)
          omega)
        have L := Lib.bitLen_le8' (x / 4294967296 / 65536 / 256) (by omega) (by omega)
        have M := Lib.hid (Lib.len8_of (x / 4294967296 / 65536 / 256) (by omega) (by omega))
        have b0 : 0 ≤ Lib.len8 (x / 4294967296 / 65536 / 256) := by rw [M.out]; omega
        have b1 : Lib.len8 (x / 4294967296 / 65536 / 256) ≤ 8 := by rw [M.out]; omega
        clear L
        go_enter Try.func212, Try.ntmps212
        go_wp2
        go_ret
        exact ⟨by rw [← E.out]; simp, rfl⟩
      · have f0 : 0 ≤ x / 4294967296 / 65536 := by omega
        have f1 : x / 4294967296 / 65536 ≤ 255 := by omega
        have E := Lib.hid (show ((48 : Int) + Lib.len8 (x / 4294967296 / 65536)) = lenW x by
          have q : (x / 4294967296 / 65536).toNat = x.toNat / 281474976710656 := by omega
          unfold lenW
          rw [Lib.len8_of (x / 4294967296 / 65536) (by omega) (by omega), q]
          have sh := Lib.bitLen_shift48 x.toNat (by omega) (by omega)
          omega)
        have L := Lib.bitLen_le8' (x / 4294967296 / 65536) (by omega) (by omega)
        have M := Lib.hid (Lib.len8_of (x / 4294967296 / 65536) (by omega) (by omega))
        have b0 : 0 ≤ Lib.len8 (x / 4294967296 / 65536) := by rw [M.out]; omega
        have b1 : Lib.len8 (x / 4294967296 / 65536) ≤ 8 := by rw [M.out]; omega
        clear L
        go_enter Try.func212, Try.ntmps212
        go_wp2
        go_ret
        exact ⟨by rw [← E.out]; simp, rfl⟩
    · by_cases c1 : 256 ≤ x / 4294967296
      · have f0 : 0 ≤ x / 4294967296 / 256 := by omega
        have f1 : x / 4294967296 / 256 ≤ 255 := by omega
        have E := Lib.hid (show ((40 : Int) + Lib.len8 (x / 4294967296 / 256)) = lenW x by
          have q : (x / 4294967296 / 256).toNat = x.toNat / 1099511627776 := by omega
          unfold lenW
          rw [Lib.len8_of (x / 4294967296 / 256) (by omega) (by omega), q]
          have sh := Lib.bitLen_shift40 x.toNat (by omega) (by omega)
          omega)
        have L := Lib.bitLen_le8' (x / 4294967296 / 256) (by omega) (by omega)
        have M := Lib.hid (Lib.len8_of (x / 4294967296 / 256) (by omega) (by omega))
        have b0 : 0 ≤ Lib.len8 (x / 4294967296 / 256) := by rw [M.out]; omega
        have b1 : Lib.len8 (x / 4294967296 / 256) ≤ 8 := by rw [M.out]; omega
        clear L
        go_enter Try.func212, Try.ntmps212
        go_wp2
        go_ret
        exact ⟨by rw [← E.out]; simp, rfl⟩
      · have f0 : 0 ≤ x / 4294967296 := by omega
        have f1 : x / 4294967296 ≤ 255 := by omega
        have E := Lib.hid (show ((32 : Int) + Lib.len8 (x / 4294967296)) = lenW x by
          have q : (x / 4294967296).toNat = x.toNat / 4294967296 := by omega
          unfold lenW
          rw [Lib.len8_of (x / 4294967296) (by omega) (by omega), q]
          have sh := Lib.bitLen_shift32 x.toNat (by omega) (by omega)
          omega)
        have L := Lib.bitLen_le8' (x / 4294967296) (by omega) (by omega)
        have M := Lib.hid (Lib.len8_of (x / 4294967296) (by omega) (by omega))
        have b0 : 0 ≤ Lib.len8 (x / 4294967296) := by rw [M.out]; omega
        have b1 : Lib.len8 (x / 4294967296) ≤ 8 := by rw [M.out]; omega
        clear L
        go_enter Try.func212, Try.ntmps212
        go_wp2
        go_ret
        exact ⟨by rw [← E.out]; simp, rfl⟩
  · by_cases c2 : 65536 ≤ x
    · by_cases c1 : 256 ≤ x / 65536
      · have f0 : 0 ≤ x / 65536 / 256 := by omega
        have f1 : x / 65536 / 256 ≤ 255 := by omega
        have E := Lib.hid (show ((24 : Int) + Lib.len8 (x / 65536 / 256)) = lenW x by
          have q : (x / 65536 / 256).toNat = x.toNat / 16777216 := by omega
          unfold lenW
          rw [Lib.len8_of (x / 65536 / 256) (by omega) (by omega), q]
          have sh := Lib.bitLen_shift24 x.toNat (by omega) (by omega)
          omega)
        have L := Lib.bitLen_le8' (x / 65536 / 256) (by omega) (by omega)
        have M := Lib.hid (Lib.len8_of (x / 65536 / 256) (by omega) (by omega))
        have b0 : 0 ≤ Lib.len8 (x / 65536 / 256) := by rw [M.out]; omega
        have b1 : Lib.len8 (x / 65536 / 256) ≤ 8 := by rw [M.out]; omega
        clear L
        go_enter Try.func212, Try.ntmps212
        go_wp2
        go_ret
        exact ⟨by rw [← E.out]; simp, rfl⟩
      · have f0 : 0 ≤ x / 65536 := by omega
        have f1 : x / 65536 ≤ 255 := by omega
        have E := Lib.hid (show ((16 : Int) + Lib.len8 (x / 65536)) = lenW x by
          have q : (x / 65536).toNat = x.toNat / 65536 := by omega
          unfold lenW
          rw [Lib.len8_of (x / 65536) (by omega) (by omega), q]
          have sh := Lib.bitLen_shift16 x.toNat (by omega) (by omega)
          omega)
        have L := Lib.bitLen_le8' (x / 65536) (by omega) (by omega)
        have M := Lib.hid (Lib.len8_of (x / 65536) (by omega) (by omega))
        have b0 : 0 ≤ Lib.len8 (x / 65536) := by rw [M.out]; omega
        have b1 : Lib.len8 (x / 65536) ≤ 8 := by rw [M.out]; omega
        clear L
        go_enter Try.func212, Try.ntmps212
        go_wp2
        go_ret
        exact ⟨by rw [← E.out]; simp, rfl⟩
    · by_cases c1 : 256 ≤ x
      · have f0 : 0 ≤ x / 256 := by omega
        have f1 : x / 256 ≤ 255 := by omega
        have E := Lib.hid (show ((8 : Int) + Lib.len8 (x / 256)) = lenW x by
          have q : (x / 256).toNat = x.toNat / 256 := by omega
          unfold lenW
          rw [Lib.len8_of (x / 256) (by omega) (by omega), q]
          have sh := Lib.bitLen_shift8 x.toNat (by omega) (by omega)
          omega)
        have L := Lib.bitLen_le8' (x / 256) (by omega) (by omega)
        have M := Lib.hid (Lib.len8_of (x / 256) (by omega) (by omega))
        have b0 : 0 ≤ Lib.len8 (x / 256) := by rw [M.out]; omega
        have b1 : Lib.len8 (x / 256) ≤ 8 := by rw [M.out]; omega
        clear L
        go_enter Try.func212, Try.ntmps212
        go_wp2
        go_ret
        exact ⟨by rw [← E.out]; simp, rfl⟩
      · have f0 : 0 ≤ x := by omega
        have f1 : x ≤ 255 := by omega
        have E := Lib.hid (show ((0 : Int) + Lib.len8 (x)) = lenW x by
          have q : (x).toNat = x.toNat := by omega
          unfold lenW
          rw [Lib.len8_of (x) (by omega) (by omega), q]
          omega)
        have L := Lib.bitLen_le8' (x) (by omega) (by omega)
        have M := Lib.hid (Lib.len8_of (x) (by omega) (by omega))
        have b0 : 0 ≤ Lib.len8 (x) := by rw [M.out]; omega
        have b1 : Lib.len8 (x) ≤ 8 := by rw [M.out]; omega
        clear L
        go_enter Try.func212, Try.ntmps212
        go_wp2
        go_ret
        exact ⟨by rw [← E.out]; simp, rfl⟩
theorem lenW_spec {x : Int} (hx : InU x) (h : 1 ≤ x) : ∃ n : Nat, lenW x = (n : Int) + 1 ∧ n ≤ 63 ∧ 2 ^ n ≤ x ∧ x < 2 ^ (n + 1) := by
  obtain ⟨X, rfl⟩ : ∃ X : Nat, x = X := ⟨x.toNat, by omega⟩
  unfold InU at hx
  unfold lenW
  rw [Int.toNat_natCast]
  have hX : X < 2 ^ 64 := by omega
  have pos : Lib.bitLen X = 1 + Lib.bitLen (X / 2) := Lib.bitLen_half X (by omega) hX
  have le := Lib.bitLen_le X 64 (by omega) hX
  refine ⟨Lib.bitLen X - 1, by omega, by omega, ?_, ?_⟩
  · by_cases c : 2 ^ (Lib.bitLen X - 1) ≤ X
    · exact_mod_cast c
    · have := Lib.bitLen_le X (Lib.bitLen X - 1) (by omega) (by omega)
      omega
  · rw [show Lib.bitLen X - 1 + 1 = Lib.bitLen X by omega]
    by_cases c : 2 ^ Lib.bitLen X ≤ X
    · have s := Lib.bitLen_shift (Lib.bitLen X) X c hX
      have one : 1 ≤ X / 2 ^ Lib.bitLen X := (Nat.le_div_iff_mul_le (Nat.pow_pos (by decide))).2 (by omega)
      have z := Lib.bitLen_half (X / 2 ^ Lib.bitLen X) (by omega) (Nat.lt_of_le_of_lt (Nat.div_le_self _ _) hX)
      omega
    · have c' : X < 2 ^ Lib.bitLen X := by omega
      exact_mod_cast c'
theorem lenW_in {x : Int} (hx : InU x) : 0 ≤ lenW x ∧ lenW x ≤ 64 := by
  unfold InU at hx
  have := Lib.bitLen_le x.toNat 64 (by omega) (by omega)
  unfold lenW; omega
theorem LeadingZeros64_any (x : Int) (hx : InU x) (w : World) : Calls Try.prog 224 #[.int .u64 x] w fun e w' =>
    e = .returned (.int .i64 (64 - lenW x)) ∧ w = w' := by
  obtain ⟨l0, l1⟩ := lenW_in hx
  go_enter Try.func224, Try.ntmps224
  go_wp2_with fail
  refine (Len64_any x hx _).mono ?_
  rintro e w1 ⟨rfl, rfl⟩
  go_wp2
  go_ret
  exact ⟨rfl, rfl⟩
end Go.Proofs.Ytmikjgbojknlnaa
namespace Go.Proofs.Ytmikjgbojknlnaa
open Go.ChangeShapes Go.WideShapes Go.ChangeAt Go.RowKit
set_option linter.unusedVariables false
set_option maxRecDepth 100000
set_option linter.unusedSimpArgs false
set_option maxHeartbeats 1000000

theorem below_drewN {w : World} (n : Nat) : Below w.heap.size w (w.drewN n) := ⟨rfl, rfl, rfl, Nat.le_refl _, fun _ _ => rfl⟩
theorem Div64_small (lo d : Int) (hl : InU lo) (hd : InU d) (d0 : 1 ≤ d) (w : World) : Calls Try.prog 223 #[.int .u64 0, .int .u64 lo, .int .u64 d] w fun e w' =>
    e = .returned (.tuple #[.int .u64 (lo / d), .int .u64 (lo % d)]) ∧ ∃ n, w' = w.drewN n := by
  have l0 : 0 ≤ lo := hl.1
  have l1 : lo ≤ 18446744073709551615 := hl.2
  have d1 : d ≤ 18446744073709551615 := hd.2
  have z0 : (d == 0) = false := by simp; omega
  go_enter Try.func223, Try.ntmps223
  go_wp2_with fail
  go_quiet (fail)
  go_wp2
  go_ret2
  exact ⟨rfl, _, rfl⟩

/-- The numbers of the division, behind the shift by k: what each of the function's words is. -/
structure Shifted (hi lo d : Int) (k : Nat) (y a b u m c e : Int) : Prop where
  wy : IntKind.u64.wrap (d * 2 ^ k) = y
  ey : y = d * 2 ^ k
  wa : y / 4294967296 = a
  wb : bits .and .u64 y 4294967295 = b
  wu : bits .or .u64 (IntKind.u64.wrap (hi * 2 ^ k)) (lo / 2 ^ (64 - k)) = u
  wm : IntKind.u64.wrap (lo * 2 ^ k) = m
  wc : m / 4294967296 = c
  we : bits .and .u64 m 4294967295 = e
  nm : Normal y a b
  u0 : 0 ≤ u
  u1 : u < y
  y1 : y ≤ 18446744073709551615
  c0 : 0 ≤ c
  c1 : c < 4294967296
  e0 : 0 ≤ e
  e1 : e < 4294967296
  m0 : 0 ≤ m
  m1 : m ≤ 18446744073709551615
  num : (hi * B64 + lo) * 2 ^ k = u * 18446744073709551616 + c * 4294967296 + e
theorem and_mask {x : Int} (h : InU x) : bits .and .u64 x 4294967295 = x % 4294967296 := by
  obtain ⟨X, rfl⟩ : ∃ X : Nat, x = X := ⟨x.toNat, by unfold InU at h; omega⟩
  unfold InU at h
  exact Mul64.maskN X (by omega)
theorem shifted {hi lo d : Int} {n : Nat} (h0 : 0 ≤ hi) (h1 : hi < d) (l0 : 0 ≤ lo) (l1 : lo ≤ 18446744073709551615) (n63 : n ≤ 63) (d0 : 2 ^ n ≤ d) (d1 : d < 2 ^ (n + 1)) :
    ∃ y a b u m c e, Shifted hi lo d (63 - n) y a b u m c e := by
  have hp := pow_pos' (63 - n)
  have p63 : (2 : Int) ^ n * 2 ^ (63 - n) = 9223372036854775808 := by rw [← Int.pow_add, show n + (63 - n) = 63 by omega]; rfl
  have p64 : (2 : Int) ^ (n + 1) * 2 ^ (63 - n) = 18446744073709551616 := by rw [← Int.pow_add, show n + 1 + (63 - n) = 64 by omega]; rfl
  have y0 : 9223372036854775808 ≤ d * 2 ^ (63 - n) := by
    rw [← p63]; exact Int.mul_le_mul_of_nonneg_right d0 (by omega)
  have y1 : d * 2 ^ (63 - n) < 18446744073709551616 := by
    rw [← p64]; exact Int.mul_lt_mul_of_pos_right d1 hp
  obtain ⟨num, ub, hs0, r0, r1⟩ := scaled (k := 63 - n) (by omega) h0 h1 l0 (show lo < B64 by unfold B64; omega) (by unfold B64; omega)
  have ml := loW_in (lo * 2 ^ (63 - n))
  have orx : bits .or .u64 (IntKind.u64.wrap (hi * 2 ^ (63 - n))) (lo / 2 ^ (64 - (63 - n))) = hi * 2 ^ (63 - n) + lo / 2 ^ (64 - (63 - n)) := by
    rw [wrapU, loW_self (by unfold InU; omega), Int.mul_comm hi]
    rw [Int.mul_comm hi] at ub
    exact (or_add h0 r0 r1 (by unfold B64; omega)).1
  have yy := Int.mul_ediv_add_emod (d * 2 ^ (63 - n)) 4294967296
  have mm := Int.mul_ediv_add_emod (loW (lo * 2 ^ (63 - n))) 4294967296
  refine ⟨_, _, _, _, _, _, _, ⟨by rw [wrapU]; exact loW_self (by unfold InU; omega), rfl, rfl, and_mask (by unfold InU; omega), orx, wrapU _, rfl, and_mask (loW_in _), ⟨?_, ?_, ?_, ?_, ?_⟩, ?_, ub, ?_, ?_, ?_, ?_, ?_, ml.1, ml.2, ?_⟩⟩
  all_goals first | omega | (rw [num]; unfold B64; omega)

/-- The quotient and the rest out of the digits. -/
theorem div_end {hi lo d y a b u m c e : Int} {k : Nat} (s : Shifted hi lo d k y a b u m c e) (hd : 0 < d) :
    digQ u c y * 4294967296 + digQ (digR u c y) e y = (hi * B64 + lo) / d ∧ digR (digR u c y) e y / 2 ^ k = (hi * B64 + lo) % d := by
  obtain ⟨q, r⟩ := two_digits s.u0 s.u1 s.c0 s.c1 s.e0 s.e1 s.num
  have hp := pow_pos' k
  rw [s.ey, Int.mul_ediv_mul_of_pos_left _ _ hp] at q
  rw [s.ey, Int.mul_comm (hi * B64 + lo), Int.mul_comm d, Int.mul_emod_mul_of_pos _ _ hp] at r
  rw [s.ey]
  rw [Int.mul_comm d] at *
  refine ⟨q.symm, ?_⟩
  rw [← r, Int.mul_ediv_cancel_left _ (by omega)]
end Go.Proofs.Ytmikjgbojknlnaa
