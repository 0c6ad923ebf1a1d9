/- The contract of WideDiv, the program's. Conditions: a Wide and an int64. -/
import Derived.Test.YtmikjgbojknlnaaWideK
import Derived.Test.YtmikjgbojknlnaaNumZ
import Derived.Test.YtmikjgbojknlnaaWideZe
import Derived.Deep.RegionHeld3
namespace Go.Proofs.Ytmikjgbojknlnaa
open Go.ChangeShapes Go.WideShapes Go.ChangeAt Go.RowKit
set_option linter.unusedVariables false
set_option maxRecDepth 100000
set_option linter.unusedSimpArgs false
set_option maxHeartbeats 1000000

theorem Div64_any (hi lo d : Int) (hh : 0 ≤ hi) (hl : InU lo) (hd : InU d) (h1 : hi < d) (w : World) : Calls Try.prog 223 #[.int .u64 hi, .int .u64 lo, .int .u64 d] w fun e w' =>
    e = .returned (.tuple #[.int .u64 ((hi * B64 + lo) / d), .int .u64 ((hi * B64 + lo) % d)]) ∧ ∃ n, w' = w.drewN n := by
  by_cases z : hi = 0
  · subst z
    rw [Int.zero_mul, Int.zero_add]
    exact Div64_small lo d hl hd (by omega) w
  · have hH : InU hi := by unfold InU at *; omega
    obtain ⟨n, hn, n63, d0, d1⟩ := lenW_spec hd (show 1 ≤ d by omega)
    obtain ⟨y, a, b, u, m, c, e, s⟩ := shifted hh h1 hl.1 hl.2 n63 d0 d1
    exact (Div64_great hi lo d y a b u m c e n hH hl hd (by omega) h1 hn n63 s w).mono fun e w' ⟨he, hw⟩ => ⟨he, 0, hw ▸ rfl⟩
theorem below_drawn {B : Nat} {a w : World} (h : Below B a w) (n : Nat) : Below B a (w.drewN n) := ⟨h.os, h.tape, h.output, h.size, h.block⟩
theorem divide_any (m d : Int) (m0 : 0 ≤ m) (m1 : m < 340282366920938463463374607431768211456) (hd : InU d) (d0 : 1 ≤ d) (w : World) :
    Calls Try.prog 222 #[.agg #[.int .u64 (hiW m), .int .u64 (loW m)], .int .u64 d] w fun e w' =>
      e = .returned (.tuple #[.agg #[.int .u64 (hiW (m / d)), .int .u64 (loW (m / d))], .int .u64 (m % d)]) ∧ Below w.heap.size w w' := by
  obtain ⟨e1, e2, e3, _, h0, h1⟩ := div_halves m0 m1 d0
  have d1 : d ≤ 18446744073709551615 := hd.2
  have E1 := Lib.hid e1
  have E2 := Lib.hid e2
  have E3 := Lib.hid e3
  clear e1 e2 e3
  have dz : (d == 0) = false := by simp; omega
  have dn : ¬ d = 0 := by omega
  have h1' : hiW m ≤ 18446744073709551615 := by unfold B64 at h1; omega
  clear h1
  have C := Lib.hid (fun w => Div64_any (hiW m % d) (loW m) d (Int.emod_nonneg _ (by omega)) (loW_in m) hd (Int.emod_lt_of_pos _ (by omega)) w)
  clear m1
  go_enter Try.func222, Try.ntmps222
  go_wp2_with fail
  go_quiet ((go_at_call 223; exact Calls.quiet_of (C.out _)))
  go_wp2
  exact bodyPost_ret (v := .tuple #[.agg #[.int .u64 (hiW m / d), .int .u64 ((hiW m % d * B64 + loW m) / d)], .int .u64 ((hiW m % d * B64 + loW m) % d)]) (by simp [results, Try.results222, go_sem]) rfl ⟨by rw [E1.out, E2.out, E3.out], (by repeat (first | exact Below.refl _ _ | refine below_drawn ?_ _ | refine Below.drew ?_ | refine Below.setCell ?_ (by first | omega | (simp; done) | (simp; omega)) _ | refine Below.alloc ?_ (by first | omega | (simp; done) | (simp; omega)) _ | refine Below.trans ?_ (Below.mono (by assumption) (by first | omega | (simp; done) | (simp; omega)))))⟩
theorem magnitudeOf_any (v : Int) (hv : InW v) (w : World) : Calls Try.prog 200 #[.agg #[.int .i64 (hiW v), .int .u64 (loW v)]] w fun e w' =>
    e = .returned (.agg #[.int .u64 (hiW (v.natAbs : Int)), .int .u64 (loW (v.natAbs : Int))]) ∧ Below w.heap.size w w' := by
  by_cases s : v < 0
  · have E0 := Lib.hid (show (v.natAbs : Int) = -v by omega)
    have E1 := Lib.hid (abs_neg hv s)
    have s0 : hiW v < 0 := hi_neg_iff.2 s
    clear s
    go_enter Try.func200, Try.ntmps200
    go_wp2_with fail
    refine (negative_any v hv _).mono ?_
    rintro e w1 ⟨rfl, hb1⟩
    have hs1 : _ ≤ w1.heap.size := hb1.size
    try simp at hs1
    obtain ⟨hc1, hf1⟩ := old_kept hb1; have hz1 : w.heap.size + 1 < w1.heap.size := Nat.lt_of_lt_of_le (by first | omega | (simp; done) | (simp; omega)) hb1.size; have hz1a : w.heap.size < w1.heap.size := Nat.lt_of_lt_of_le (by first | omega | (simp; done) | (simp; omega)) hb1.size
    have k10 := hc1 (w.heap.size) 0 (by first | assumption | omega | (simp; done) | (simp; omega)); have k11 := hc1 (w.heap.size) 1 (by first | assumption | omega | (simp; done) | (simp; omega))
    obtain ⟨k10', k11'⟩ : w1.cell? ⟨w.heap.size + 1, 0, none⟩ = some (.int .u64 0) ∧ w1.cell? ⟨w.heap.size + 1, 1, none⟩ = some (.int .u64 0) := by constructor <;> (rw [hc1 _ _ (by simp)]; simp)
    go_wp2
    exact bodyPost_ret (v := .agg #[.int .u64 (IntKind.u64.wrap (hiW (negW v))), .int .u64 (loW (negW v))]) (by simp [results, Try.results200, go_sem, k10', k11']) rfl ⟨by rw [wrapU, E0.out, E1.out.1, E1.out.2], belB⟩
  · have E0 := Lib.hid (show (v.natAbs : Int) = v by omega)
    have E1 := Lib.hid (abs_pos hv s)
    have s0 : ¬ hiW v < 0 := fun h => s (hi_neg_iff.1 h)
    clear s
    go_enter Try.func200, Try.ntmps200
    go_wp2
    exact bodyPost_ret (v := .agg #[.int .u64 (IntKind.u64.wrap (hiW v)), .int .u64 (loW v)]) (by simp [results, Try.results200, go_sem]) rfl ⟨by rw [wrapU, E0.out, E1.out.1], belB⟩
theorem WideDiv_none (v d : Int) (hd : In64 d) (h : d ≤ 0) (w : World) : Calls Try.prog 217 #[.agg #[.int .i64 (hiW v), .int .u64 (loW v)], .int .i64 d] w fun e w' =>
    e = .returned (.tuple #[.agg #[.int .i64 (hiW (quoW v d)), .int .u64 (loW (quoW v d))], .int .i64 (remW v d), .bool (okD d)]) ∧ Below w.heap.size w w' := by
  have E1 := Lib.hid (show quoW v d = 0 from if_neg (by omega))
  have E2 := Lib.hid (show remW v d = 0 from if_neg (by omega))
  have E3 := Lib.hid (show okD d = false from decide_eq_false (by omega))
  go_enter Try.func217, Try.ntmps217
  go_wp2
  exact bodyPost_ret (v := .tuple #[.agg #[.int .i64 0, .int .u64 0], .int .i64 0, .bool false]) (by simp [results, Try.results217, go_sem]) rfl ⟨by rw [E1.out, E2.out, E3.out]; rfl, belB⟩
theorem quo_small {v d : Int} (hv : InW v) (s : ¬ v < 0) (d0 : 1 ≤ d) : wrap64 (hiW (v / d)) = hiW (v / d) := wrap64_self (hiW_in (quo_in hv d0))
theorem rem_small {v d : Int} (d0 : 1 ≤ d) (hd : In64 d) : wrap64 (v % d) = v % d := by
  have := rem_in (v := v) d0
  apply wrap64_self; unfold In64 at *; omega
theorem WideDiv_pos (v d : Int) (hv : InW v) (hd : In64 d) (d0 : 1 ≤ d) (s : ¬ v < 0) (w : World) : Calls Try.prog 217 #[.agg #[.int .i64 (hiW v), .int .u64 (loW v)], .int .i64 d] w fun e w' =>
    e = .returned (.tuple #[.agg #[.int .i64 (hiW (quoW v d)), .int .u64 (loW (quoW v d))], .int .i64 (remW v d), .bool (okD d)]) ∧ Below w.heap.size w w' := by
  have E1 := Lib.hid (show quoW v d = v / d from if_pos d0)
  have E2 := Lib.hid (show remW v d = v % d from if_pos d0)
  have E3 := Lib.hid (show okD d = true from decide_eq_true d0)
  have E4 := Lib.hid (quo_small hv s d0)
  have E5 := Lib.hid (rem_small (v := v) d0 hd)
  have E6 := Lib.hid (show (v.natAbs : Int) = v by omega)
  have E7 := Lib.hid (show loW d = d by unfold In64 at hd; exact loW_self (by unfold InU; omega))
  have m1 : v < 340282366920938463463374607431768211456 := by unfold InW at hv; omega
  have D := Lib.hid (fun w => divide_any v d (by omega) m1 (show InU d by unfold In64 at hd; unfold InU; omega) d0 w)
  have dp : ¬ d ≤ 0 := by omega
  have s0 : ¬ hiW v < 0 := fun h => s (hi_neg_iff.1 h)
  clear s m1
  go_enter Try.func217, Try.ntmps217
  go_wp2_with fail
  refine (magnitudeOf_any v hv _).mono ?_
  rintro e w1 ⟨rfl, hb1⟩
  have hs1 : _ ≤ w1.heap.size := hb1.size
  try simp at hs1
  rw [E6.out]
  obtain ⟨hc1, hf1⟩ := old_kept hb1; have hz1 : w.heap.size + 1 < w1.heap.size := Nat.lt_of_lt_of_le (by first | omega | (simp; done) | (simp; omega)) hb1.size; have hz1a : w.heap.size < w1.heap.size := Nat.lt_of_lt_of_le (by first | omega | (simp; done) | (simp; omega)) hb1.size
  have k10 := hc1 (w.heap.size + 1) 0 (by first | assumption | omega | (simp; done) | (simp; omega)); have k11 := hc1 (w.heap.size + 1) 1 (by first | assumption | omega | (simp; done) | (simp; omega))
  go_wp2_with fail
  rw [wrapU, E7.out]
  refine (D.out _).mono ?_
  rintro e w2 ⟨rfl, hb2⟩
  have hs2 : _ ≤ w2.heap.size := hb2.size
  try simp at hs2
  obtain ⟨hc2, hf2⟩ := old_kept hb2; have hz2 : w.heap.size + 1 < w2.heap.size := Nat.lt_of_lt_of_le (by first | omega | (simp; done) | (simp; omega)) hb2.size; have hz2a : w.heap.size < w2.heap.size := Nat.lt_of_lt_of_le (by first | omega | (simp; done) | (simp; omega)) hb2.size
  have k20 := hc2 (w.heap.size + 1) 0 (by first | assumption | omega | (simp; done) | (simp; omega)); have k21 := hc2 (w.heap.size + 1) 1 (by first | assumption | omega | (simp; done) | (simp; omega))
  go_wp2
  exact bodyPost_ret (v := .tuple #[.agg #[.int .i64 (wrap64 (hiW (v / d))), .int .u64 (loW (v / d))], .int .i64 (wrap64 (v % d)), .bool true]) (by simp [results, Try.results217, go_sem, k20, k21, k10, k11, hz2]) rfl ⟨by rw [E1.out, E2.out, E3.out, E4.out, E5.out], belB⟩
end Go.Proofs.Ytmikjgbojknlnaa
