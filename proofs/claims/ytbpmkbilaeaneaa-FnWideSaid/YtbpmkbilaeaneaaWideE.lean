/- Contracts of shifts, sums, negatives and comparisons of wide integers, program and model alike. Conditions: numbers are int64 or Wide. -/
import Derived.Test.YtbpmkbilaeaneaaWideD
import Derived.Test.YtbpmkbilaeaneaaNumD
import Derived.BigRegion
import Derived.BigQuiet
import Derived.Outline
namespace Go.Proofs.Ytbpmkbilaeaneaa
open Go.ChangeShapes Go.WideShapes Go.ChangeAt Go.RowKit
set_option linter.unusedVariables false
set_option maxRecDepth 100000
set_option linter.unusedSimpArgs false
set_option maxHeartbeats 1000000

theorem shr_mid {v n : Int} (hv : InW v) (h0 : 0 ≤ n) (h1 : n < 64) :
    hiW v / 2 ^ n.toNat = hiW (shrW v n) ∧
    bits .or .u64 (IntKind.u64.wrap (IntKind.u64.wrap (hiW v) * 2 ^ (64 - n).toNat)) (loW v / 2 ^ n.toNat) = loW (shrW v n) ∧
    bits .or .u64 (loW v / 2 ^ n.toNat) (IntKind.u64.wrap (IntKind.u64.wrap (hiW v) * 2 ^ (64 - n).toNat)) = loW (shrW v n) := by
  have e : shrW v n = v / 2 ^ n.toNat := if_pos (by omega)
  have k : (64 - n).toNat = 64 - n.toNat := by omega
  rw [e, k, wrapU, wrapU]
  obtain ⟨a, b⟩ := lo_div hv n.toNat (by omega)
  exact ⟨(hi_div v _).symm, a, b⟩
theorem shr_far {v n : Int} (hv : InW v) (h0 : 64 ≤ n) (h1 : n ≤ 127) :
    hiW v / 2 ^ (n - 64).toNat = shrW v n ∧ hiW v / 9223372036854775808 = hiW (shrW v n) ∧ In64 (shrW v n) := by
  have e : shrW v n = hiW v / 2 ^ (n - 64).toNat := by
    unfold shrW
    rw [if_pos (by omega), ← div_high, show 64 + (n - 64).toNat = n.toNat by omega]
  rw [e]
  exact ⟨rfl, (hi_sign hv _).symm, hi_in64 hv _⟩
theorem shr_none (v : Int) : shrW v 0 = v := by
  have e : shrW v 0 = v / 2 ^ (0 : Int).toNat := if_pos (by omega)
  rw [e]; simp
theorem shr_out {v n : Int} (h : ¬ (0 ≤ n ∧ n ≤ 127)) : hiW (shrW v n) = 0 ∧ loW (shrW v n) = 0 := by
  have e : shrW v n = 0 := if_neg h
  rw [e]; exact ⟨rfl, rfl⟩
theorem WideShift_any (v n : Int) (hv : InW v) (hn : In64 n) (w : World) : Calls Try.prog 11 #[.agg #[.int .i64 (hiW v), .int .u64 (loW v)], .int .i64 n] w fun e w' =>
    e = .returned (.agg #[.int .i64 (hiW (shrW v n)), .int .u64 (loW (shrW v n))]) ∧ Below w.heap.size w w' := by
  have m0 : -9223372036854775808 ≤ n := hn.1
  have m1 : n ≤ 9223372036854775807 := hn.2
  by_cases lo : n < 0
  · obtain ⟨e1, e2⟩ := shr_out (v := v) (n := n) (by omega)
    have E1 := Lib.hid e1
    have E2 := Lib.hid e2
    clear e1 e2
    go_enter Try.func11, Try.ntmps11
    go_wp2
    exact bodyPost_ret (v := .agg #[.int .i64 0, .int .u64 0]) (by simp [results, Try.results11, go_sem]) rfl ⟨by rw [E1.out, E2.out], (by repeat (first | exact Below.refl _ _ | refine Below.drew ?_ | refine Below.setCell ?_ (by first | omega | (simp; done) | (simp; omega)) _ | refine Below.alloc ?_ (by first | omega | (simp; done) | (simp; omega)) _ | refine Below.trans ?_ (Below.mono (by assumption) (by first | omega | (simp; done) | (simp; omega)))))⟩
  · by_cases hi : 127 < n
    · obtain ⟨e1, e2⟩ := shr_out (v := v) (n := n) (by omega)
      have E1 := Lib.hid e1
      have E2 := Lib.hid e2
      clear e1 e2
      go_enter Try.func11, Try.ntmps11
      go_wp2
      exact bodyPost_ret (v := .agg #[.int .i64 0, .int .u64 0]) (by simp [results, Try.results11, go_sem]) rfl ⟨by rw [E1.out, E2.out], (by repeat (first | exact Below.refl _ _ | refine Below.drew ?_ | refine Below.setCell ?_ (by first | omega | (simp; done) | (simp; omega)) _ | refine Below.alloc ?_ (by first | omega | (simp; done) | (simp; omega)) _ | refine Below.trans ?_ (Below.mono (by assumption) (by first | omega | (simp; done) | (simp; omega)))))⟩
    · by_cases mid : n < 64
      · obtain ⟨e1, e2, _⟩ := shr_mid hv (by omega) mid
        have E1 := Lib.hid e1
        have E2 := Lib.hid e2
        clear e1 e2
        have h2 : 0 ≤ 64 - n := by omega
        go_enter Try.func11, Try.ntmps11
        go_wp2_with fail
        go_region
        go_wp2
        exact bodyPost_ret (v := .agg #[.int .i64 (hiW v / 2 ^ n.toNat), .int .u64 (bits BinOp.or IntKind.u64 (IntKind.u64.wrap (IntKind.u64.wrap (hiW v) * 2 ^ (64 - n).toNat)) (loW v / 2 ^ n.toNat))]) (by simp [results, Try.results11, go_sem]) rfl ⟨by rw [E1.out, E2.out], (by repeat (first | exact Below.refl _ _ | refine Below.drew ?_ | refine Below.setCell ?_ (by first | omega | (simp; done) | (simp; omega)) _ | refine Below.alloc ?_ (by first | omega | (simp; done) | (simp; omega)) _ | refine Below.trans ?_ (Below.mono (by assumption) (by first | omega | (simp; done) | (simp; omega)))))⟩
      · obtain ⟨e1, _, i1⟩ := shr_far hv (show 64 ≤ n by omega) (by omega)
        have E1 := Lib.hid e1
        clear e1
        go_enter Try.func11, Try.ntmps11
        go_wp2_with fail
        rw [E1.out]
        refine (WideOf_any _ i1 _).mono ?_
        rintro e w1 ⟨rfl, hb1⟩
        have hs1 : _ ≤ w1.heap.size := hb1.size
        try simp at hs1
        obtain ⟨hc1, hf1⟩ := old_kept hb1; have hz1 : w.heap.size + 1 < w1.heap.size := Nat.lt_of_lt_of_le (by first | omega | (simp; done) | (simp; omega)) hb1.size; have hz1a : w.heap.size < w1.heap.size := Nat.lt_of_lt_of_le (by first | omega | (simp; done) | (simp; omega)) hb1.size
        have k10 := hc1 (w.heap.size + 1) 0 (by first | assumption | omega | (simp; done) | (simp; omega)); have k11 := hc1 (w.heap.size + 1) 1 (by first | assumption | omega | (simp; done) | (simp; omega))
        go_wp2
        exact bodyPost_ret (v := .agg #[.int .i64 (hiW (shrW v n)), .int .u64 (loW (shrW v n))]) (by simp [results, Try.results11, go_sem, k10, k11]) rfl ⟨rfl, (by repeat (first | exact Below.refl _ _ | refine Below.drew ?_ | refine Below.setCell ?_ (by first | omega | (simp; done) | (simp; omega)) _ | refine Below.alloc ?_ (by first | omega | (simp; done) | (simp; omega)) _ | refine Below.trans ?_ (Below.mono (by assumption) (by first | omega | (simp; done) | (simp; omega)))))⟩
theorem WideCompare_any (h l g m : Int) (w : World) : Calls Try.prog 18 #[.agg #[.int .i64 h, .int .u64 l], .agg #[.int .i64 g, .int .u64 m]] w fun e w' =>
    e = .returned (.int .i64 (cmpHL h l g m)) ∧ Below w.heap.size w w' := by
  have E := Lib.hid (show cmpHL h l g m = if h < g ∨ (h = g ∧ l < m) then -1 else if h = g ∧ l = m then 0 else 1 from rfl)
  by_cases a : h < g
  · have E1 := Lib.hid (show cmpHL h l g m = -1 by rw [E.out, if_pos (.inl a)])
    have a0 : (h == g) = false := by simp; omega
    go_enter Try.func18, Try.ntmps18
    go_wp2
    go_ret
    exact ⟨by simp [E1.out], (by repeat (first | exact Below.refl _ _ | refine Below.drew ?_ | refine Below.setCell ?_ (by first | omega | (simp; done) | (simp; omega)) _ | refine Below.alloc ?_ (by first | omega | (simp; done) | (simp; omega)) _ | refine Below.trans ?_ (Below.mono (by assumption) (by first | omega | (simp; done) | (simp; omega)))))⟩
  · by_cases b : h = g
    · subst b
      by_cases c : l < m
      · have E1 := Lib.hid (show cmpHL h l h m = -1 by rw [E.out, if_pos (.inr ⟨rfl, c⟩)])
        have a0 : (l == m) = false := by simp; omega
        go_enter Try.func18, Try.ntmps18
        go_wp2
        go_ret
        exact ⟨by simp [E1.out], (by repeat (first | exact Below.refl _ _ | refine Below.drew ?_ | refine Below.setCell ?_ (by first | omega | (simp; done) | (simp; omega)) _ | refine Below.alloc ?_ (by first | omega | (simp; done) | (simp; omega)) _ | refine Below.trans ?_ (Below.mono (by assumption) (by first | omega | (simp; done) | (simp; omega)))))⟩
      · by_cases d : l = m
        · subst d
          have E1 := Lib.hid (show cmpHL h l h l = 0 by rw [E.out, if_neg (by omega), if_pos ⟨rfl, rfl⟩])
          go_enter Try.func18, Try.ntmps18
          go_wp2
          go_ret
          exact ⟨by simp [E1.out], (by repeat (first | exact Below.refl _ _ | refine Below.drew ?_ | refine Below.setCell ?_ (by first | omega | (simp; done) | (simp; omega)) _ | refine Below.alloc ?_ (by first | omega | (simp; done) | (simp; omega)) _ | refine Below.trans ?_ (Below.mono (by assumption) (by first | omega | (simp; done) | (simp; omega)))))⟩
        · have E1 := Lib.hid (show cmpHL h l h m = 1 by rw [E.out, if_neg (by omega), if_neg (by omega)])
          have a0 : (l == m) = false := by simpa using d
          go_enter Try.func18, Try.ntmps18
          go_wp2
          go_ret
          exact ⟨by simp [E1.out], (by repeat (first | exact Below.refl _ _ | refine Below.drew ?_ | refine Below.setCell ?_ (by first | omega | (simp; done) | (simp; omega)) _ | refine Below.alloc ?_ (by first | omega | (simp; done) | (simp; omega)) _ | refine Below.trans ?_ (Below.mono (by assumption) (by first | omega | (simp; done) | (simp; omega)))))⟩
    · have E1 := Lib.hid (show cmpHL h l g m = 1 by rw [E.out, if_neg (by omega), if_neg (by omega)])
      have a0 : (h == g) = false := by simpa using b
      go_enter Try.func18, Try.ntmps18
      go_wp2
      go_ret
      exact ⟨by simp [E1.out], (by repeat (first | exact Below.refl _ _ | refine Below.drew ?_ | refine Below.setCell ?_ (by first | omega | (simp; done) | (simp; omega)) _ | refine Below.alloc ?_ (by first | omega | (simp; done) | (simp; omega)) _ | refine Below.trans ?_ (Below.mono (by assumption) (by first | omega | (simp; done) | (simp; omega)))))⟩
end Go.Proofs.Ytbpmkbilaeaneaa
