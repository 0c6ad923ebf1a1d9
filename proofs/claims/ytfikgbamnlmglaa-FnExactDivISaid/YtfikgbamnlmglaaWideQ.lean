/- Contracts of WideSqrt and SqrtFloor, program and model alike, and their laws. Conditions: numbers are int64 or Wide. -/
import Derived.Test.YtfikgbamnlmglaaWideP
import Derived.Test.YtfikgbamnlmglaaWideF
import Derived.Deep.RegionHeld3
namespace Go.Proofs.Ytfikgbamnlmglaa
open Go.ChangeShapes Go.WideShapes Go.ChangeAt Go.RowKit
set_option linter.unusedVariables false
set_option maxRecDepth 100000

/-- The root of a wide integer; 0 if it is negative. -/
def sqW (v : Int) : Int := if v < 0 then 0 else (rootW v.toNat : Int)
def sqOk (v : Int) : Bool := decide (¬ v < 0)
/-- The number of binary digits of a number of two halves. -/
def lenM (h l : Int) : Int := if h = 0 then lenW l else 64 + lenW h
theorem length_any (h l : Int) (hh : InU h) (hl : InU l) (w : World) : Calls Try.prog 168 #[.agg #[.int .u64 h, .int .u64 l]] w fun e w' =>
    e = .returned (.int .i64 (lenM h l)) ∧ Below w.heap.size w w' := by
  by_cases z : h = 0
  · subst z
    have E := Lib.hid (show lenM 0 l = lenW l from if_pos rfl)
    go_enter Try.func168, Try.ntmps168
    go_wp2_with fail
    refine (Len64_any l hl _).mono ?_
    rintro e w1 ⟨rfl, rfl⟩
    go_wp2
    go_ret
    exact ⟨by rw [E.out]; rfl, (by repeat (first | exact Below.refl _ _ | refine Below.drew ?_ | refine Below.setCell ?_ (by first | omega | (simp; done) | (simp; omega)) _ | refine Below.alloc ?_ (by first | omega | (simp; done) | (simp; omega)) _ | refine Below.trans ?_ (Below.mono (by assumption) (by first | omega | (simp; done) | (simp; omega)))))⟩
  · have z0 : (h == 0) = false := by simpa using z
    have E := Lib.hid (show lenM h l = 64 + lenW h from if_neg z)
    obtain ⟨L0, L1⟩ := lenW_in hh
    clear z
    go_enter Try.func168, Try.ntmps168
    go_wp2_with fail
    refine (Len64_any h hh _).mono ?_
    rintro e w1 ⟨rfl, rfl⟩
    go_wp2
    go_ret
    exact ⟨by rw [E.out]; rfl, (by repeat (first | exact Below.refl _ _ | refine Below.drew ?_ | refine Below.setCell ?_ (by first | omega | (simp; done) | (simp; omega)) _ | refine Below.alloc ?_ (by first | omega | (simp; done) | (simp; omega)) _ | refine Below.trans ?_ (Below.mono (by assumption) (by first | omega | (simp; done) | (simp; omega)))))⟩
theorem lenW_lt {x : Int} (hx : InU x) : ∃ n : Nat, lenW x = n ∧ n ≤ 64 ∧ x < 2 ^ n := by
  by_cases h : 1 ≤ x
  · obtain ⟨n, e, b, _, lt⟩ := lenW_spec hx h
    exact ⟨n + 1, by rw [e]; simp, by omega, lt⟩
  · have : x = 0 := by unfold InU at hx; omega
    subst this
    exact ⟨0, rfl, by omega, by simp⟩
/-- Half of the digits, rounded up: enough for the root. -/
theorem half_digits {m : Nat} (hm : m < 170141183460469231731687303715884105728) :
    ∃ D : Nat, IntKind.i64.wrap ((IntKind.i64.wrap (lenM (hiW (m : Int)) (loW (m : Int)) + 1)).tdiv 2) = (D : Int) ∧ D ≤ 64 ∧ m < 2 ^ D * 2 ^ D := by
  have hh : InU (hiW (m : Int)) := by unfold InU hiW B64; omega
  have hl : InU (loW (m : Int)) := loW_in _
  obtain ⟨L, eL, L1, lt⟩ : ∃ L : Nat, lenM (hiW (m : Int)) (loW (m : Int)) = L ∧ L ≤ 128 ∧ (m : Int) < 2 ^ L := by
    unfold lenM
    split
    · rename_i z
      obtain ⟨n, e, b, lt⟩ := lenW_lt hl
      exact ⟨n, e, by omega, by have := val_hl (m : Int); rw [z] at this; omega⟩
    · obtain ⟨n, e, b, lt⟩ := lenW_lt hh
      refine ⟨64 + n, by rw [e]; simp, by omega, ?_⟩
      have v := val_hl (m : Int)
      have l := loW_in (m : Int)
      have k : (hiW (m : Int) + 1) * B64 ≤ 2 ^ n * B64 := Int.mul_le_mul_of_nonneg_right (by omega) (by unfold B64; omega)
      rw [Int.add_mul, Int.one_mul] at k
      have p : (2 : Int) ^ (64 + n) = 2 ^ n * B64 := by rw [Int.pow_add, Int.mul_comm]; rfl
      rw [p]
      have : loW (m : Int) < B64 := by unfold B64; omega
      omega
  refine ⟨(L + 1) / 2, ?_, by omega, ?_⟩
  · rw [eL, IntKind.wrap_i64, IntKind.wrap_i64]
    have t : ((L : Int) + 1).tdiv 2 = ((L : Int) + 1) / 2 := Int.tdiv_eq_ediv_of_nonneg (by omega)
    have a : ((L : Int) + 1 + 9223372036854775808) % 18446744073709551616 - 9223372036854775808 = (L : Int) + 1 := by omega
    rw [a, t]; omega
  · have lt' : m < 2 ^ L := by exact_mod_cast lt
    rw [← Nat.pow_add]
    exact Nat.lt_of_lt_of_le lt' (Nat.pow_le_pow_right (by decide) (by omega))
set_option maxHeartbeats 1000000 in
theorem WideSqrt_any (v : Int) (hv : InW v) (w : World) : Calls Try.prog 158 #[.agg #[.int .i64 (hiW v), .int .u64 (loW v)]] w fun e w' =>
    e = .returned (.tuple #[.int .u64 (sqW v), .bool (sqOk v)]) ∧ Below w.heap.size w w' := by
  by_cases s : v < 0
  · have E1 := Lib.hid (show sqW v = 0 from if_pos s)
    have E2 := Lib.hid (show sqOk v = false by unfold sqOk; simp [s])
    have s0 : hiW v < 0 := hi_neg_iff.2 s
    clear s
    go_enter Try.func158, Try.ntmps158
    go_wp2
    go_ret2
    exact ⟨by simp [E1.out, E2.out], (by repeat (first | exact Below.refl _ _ | refine Below.drew ?_ | refine Below.setCell ?_ (by first | omega | (simp; done) | (simp; omega)) _ | refine Below.alloc ?_ (by first | omega | (simp; done) | (simp; omega)) _ | refine Below.trans ?_ (Below.mono (by assumption) (by first | omega | (simp; done) | (simp; omega)))))⟩
  · have E1 := Lib.hid (show sqW v = (rootW v.toNat : Int) from if_neg s)
    have E2 := Lib.hid (show sqOk v = true by unfold sqOk; simp [s])
    have s0 : ¬ hiW v < 0 := fun h => s (hi_neg_iff.1 h)
    obtain ⟨m, rfl⟩ : ∃ m : Nat, v = m := ⟨v.toNat, by omega⟩
    have hm : m < 170141183460469231731687303715884105728 := by unfold InW at hv; omega
    obtain ⟨D, d0, d1, d2⟩ := half_digits hm
    have A := Lib.hid (show (((m : Int)).natAbs : Int) = (m : Int) by omega)
    have G := Lib.hid (fun w => greatest_any m D (by omega) d1 d2 w)
    have L := Lib.hid (fun w => length_any (hiW (m : Int)) (loW (m : Int)) (by unfold InU hiW B64; omega) (loW_in _) w)
    clear s hm d1 d2
    go_enter Try.func158, Try.ntmps158
    go_wp2_with fail
    refine (magnitudeOf_any (m : Int) hv _).mono ?_
    rintro e w1 ⟨rfl, hb1⟩
    have hs1 : _ ≤ w1.heap.size := hb1.size
    try simp at hs1
    rw [A.out]
    go_wp2_with fail
    obtain ⟨hlt2, hlt3, hlt4, hlt5, hlt6, hlt7, hlt8, hlt9, hlt10, hlt11⟩ := below_add; go_region_held3 (fun w' => w'.cell? ⟨w1.heap.size, 0, none⟩ = some (.int .u64 (hiW (m : Int))) ∧ w'.cell? ⟨w1.heap.size, 1, none⟩ = some (.int .u64 (loW (m : Int)))) (simp [go_sem, *]) (first | (go_at_call 168; refine (L.out _).mono ?_; rintro e w1 ⟨rfl, hb⟩; have hs : _ ≤ w1.heap.size := hb.size; (try simp at hs); obtain ⟨hc, hf, hl, hn, hm⟩ := behind hb) | (go_at_call 167; refine (G.out _).mono ?_; rintro e w1 ⟨rfl, hb⟩; have hs : _ ≤ w1.heap.size := hb.size; (try simp at hs); obtain ⟨hc, hf, hl, hn, hm⟩ := behind hb))
    all_goals go_wp2
    all_goals go_ret2
    all_goals exact ⟨by simp [E1.out, E2.out], (by repeat (first | exact Below.refl _ _ | refine Below.drew ?_ | refine Below.setCell ?_ (by first | omega | (simp; done) | (simp; omega)) _ | refine Below.alloc ?_ (by first | omega | (simp; done) | (simp; omega)) _ | refine Below.trans ?_ (Below.mono (by assumption) (by first | omega | (simp; done) | (simp; omega)))))⟩
end Go.Proofs.Ytfikgbamnlmglaa
