/- The contracts of WideDiv, program and model alike. Conditions: a Wide and an int64. The contracts of MulDivFloor, program and model alike, and the laws of WideDiv and MulDivFloor. Conditions: numbers are int64 or Wide. -/
import Derived.Test.YtmikjgbojknlnaaWideL
import Derived.Test.YtmikjgbojknlnaaWideH
namespace Go.Proofs.Ytmikjgbojknlnaa
open Go.ChangeShapes Go.WideShapes Go.ChangeAt Go.RowKit
set_option linter.unusedVariables false
set_option maxRecDepth 100000
set_option linter.unusedSimpArgs false
set_option maxHeartbeats 1000000

theorem WideDiv_neg (v d : Int) (hv : InW v) (hd : In64 d) (d0 : 1 ≤ d) (s : v < 0) (w : World) : Calls Try.prog 217 #[.agg #[.int .i64 (hiW v), .int .u64 (loW v)], .int .i64 d] w fun e w' =>
    e = .returned (.tuple #[.agg #[.int .i64 (hiW (quoW v d)), .int .u64 (loW (quoW v d))], .int .i64 (remW v d), .bool (okD d)]) ∧ Below w.heap.size w w' := by
  have E1 := Lib.hid (show quoW v d = v / d from if_pos d0)
  have E2 := Lib.hid (show remW v d = v % d from if_pos d0)
  have E3 := Lib.hid (show okD d = true from decide_eq_true d0)
  have F1 := Lib.hid (show quoW (-1 - v) d = (-1 - v) / d from if_pos d0)
  have F2 := Lib.hid (show remW (-1 - v) d = (-1 - v) % d from if_pos d0)
  have F3 := Lib.hid (show okD d = true from decide_eq_true d0)
  have hc := compl_in hv
  have hq := quo_in hc d0
  have CC := Lib.hid (div_compl (v := v) d0)
  have R := rem_in (v := -1 - v) d0
  obtain ⟨R0, R1⟩ := R
  have P := Lib.hid (fun w => WideDiv_pos (-1 - v) d hc hd d0 (by omega) w)
  have D0 : -9223372036854775808 ≤ d := hd.1
  have D1 : d ≤ 9223372036854775807 := hd.2
  have dp : ¬ d ≤ 0 := by omega
  have s0 : hiW v < 0 := hi_neg_iff.2 s
  clear s
  go_enter Try.func217, Try.ntmps217
  go_wp2_with fail
  refine (complement_any v hv _).mono ?_
  rintro e w1 ⟨rfl, hb1⟩
  have hs1 : _ ≤ w1.heap.size := hb1.size
  try simp at hs1
  obtain ⟨hc1, hf1⟩ := old_kept hb1; have hz1 : w.heap.size + 1 < w1.heap.size := Nat.lt_of_lt_of_le (by first | omega | (simp; done) | (simp; omega)) hb1.size; have hz1a : w.heap.size < w1.heap.size := Nat.lt_of_lt_of_le (by first | omega | (simp; done) | (simp; omega)) hb1.size
  have k10 := hc1 (w.heap.size + 1) 0 (by first | assumption | omega | (simp; done) | (simp; omega)); have k11 := hc1 (w.heap.size + 1) 1 (by first | assumption | omega | (simp; done) | (simp; omega))
  go_wp2_with fail
  refine (P.out _).mono ?_
  rintro e w2 ⟨rfl, hb2⟩
  have hs2 : _ ≤ w2.heap.size := hb2.size
  try simp at hs2
  rw [F1.out, F2.out]
  obtain ⟨hc2, hf2⟩ := old_kept hb2; have hz2 : w.heap.size + 1 < w2.heap.size := Nat.lt_of_lt_of_le (by first | omega | (simp; done) | (simp; omega)) hb2.size; have hz2a : w.heap.size < w2.heap.size := Nat.lt_of_lt_of_le (by first | omega | (simp; done) | (simp; omega)) hb2.size
  have k20 := hc2 (w.heap.size + 1) 0 (by first | assumption | omega | (simp; done) | (simp; omega)); have k21 := hc2 (w.heap.size + 1) 1 (by first | assumption | omega | (simp; done) | (simp; omega))
  go_wp2_with fail
  refine (complement_any ((-1 - v) / d) hq _).mono ?_
  rintro e w3 ⟨rfl, hb3⟩
  have hs3 : _ ≤ w3.heap.size := hb3.size
  try simp at hs3
  obtain ⟨hc3, hf3⟩ := old_kept hb3; have hz3 : w.heap.size + 1 < w3.heap.size := Nat.lt_of_lt_of_le (by first | omega | (simp; done) | (simp; omega)) hb3.size; have hz3a : w.heap.size < w3.heap.size := Nat.lt_of_lt_of_le (by first | omega | (simp; done) | (simp; omega)) hb3.size
  have k30 := hc3 (w.heap.size + 1) 0 (by first | assumption | omega | (simp; done) | (simp; omega)); have k31 := hc3 (w.heap.size + 1) 1 (by first | assumption | omega | (simp; done) | (simp; omega))
  go_wp2
  exact bodyPost_ret (v := .tuple #[.agg #[.int .i64 (hiW (-1 - (-1 - v) / d)), .int .u64 (loW (-1 - (-1 - v) / d))], .int .i64 (d - 1 - (-1 - v) % d), .bool true]) (by simp [results, Try.results217, go_sem, k30, k31, k20, k21, k10, k11, hz2]) rfl ⟨by rw [E1.out, E2.out, E3.out, CC.out.1, CC.out.2], belB⟩
theorem WideDiv_any (v d : Int) (hv : InW v) (hd : In64 d) (w : World) : Calls Try.prog 217 #[.agg #[.int .i64 (hiW v), .int .u64 (loW v)], .int .i64 d] w fun e w' =>
    e = .returned (.tuple #[.agg #[.int .i64 (hiW (quoW v d)), .int .u64 (loW (quoW v d))], .int .i64 (remW v d), .bool (okD d)]) ∧ Below w.heap.size w w' := by
  by_cases d0 : 1 ≤ d
  · by_cases s : v < 0
    · exact WideDiv_neg v d hv hd d0 s w
    · exact WideDiv_pos v d hv hd d0 s w
  · exact WideDiv_none v d hd (by omega) w
theorem ld_all {m d : Int} (m0 : 0 ≤ m) (m1 : m ≤ 170141183460469231731687303715884105728) (d0 : 1 ≤ d) :
    hiW m / d = hiW (m / d) ∧ ldQ (hiW m % d) (loW m) d 64 = loW (m / d) ∧ ldR (hiW m % d) (loW m) d 64 = m % d := by
  obtain ⟨e1, e2, e3, _, _, _⟩ := div_halves m0 (by omega) d0
  refine ⟨e1.symm, ?_, ?_⟩
  · unfold ldQ; rw [ldN_end, e2]
  · unfold ldR; rw [ldN_end, e3]
theorem l02Div_pos (v d : Int) (hv : InW v) (hd : In64 d) (d0 : 1 ≤ d) (s : ¬ v < 0) (w : World) : Calls Try.prog 213 #[.agg #[.int .i64 (hiW v), .int .u64 (loW v)], .int .i64 d] w fun e w' =>
    e = .returned (.tuple #[.agg #[.int .i64 (hiW (v / d)), .int .u64 (loW (v / d))], .int .i64 (v % d)]) ∧ Below w.heap.size w w' := by
  have E4 := Lib.hid (quo_small hv s d0)
  have E5 := Lib.hid (rem_small (v := v) d0 hd)
  have E7 := Lib.hid (show loW d = d by unfold In64 at hd; exact loW_self (by unfold InU; omega))
  have E8 := Lib.hid (abs_pos hv s).1
  have L := Lib.hid (ld_all (show 0 ≤ v by omega) (by unfold InW at hv; omega) d0)
  have D := Lib.hid (fun w => l02Divide_any (hiW v) (loW v) d (by have := (abs_pos hv s).2; have := hiW_in hv; unfold InU; omega) (loW_in v) d0 (by have := hd.2; omega) w)
  have s0 : ¬ hiW v < 0 := fun h => s (hi_neg_iff.1 h)
  have s1 : 0 ≤ hiW v := by omega
  clear s
  go_enter Try.func213, Try.ntmps213
  go_wp2_with fail
  rw [wrapU, wrapU, E7.out, E8.out]
  refine (D.out _).mono ?_
  rintro e w1 ⟨rfl, rfl⟩
  rw [L.out.1, L.out.2.1, L.out.2.2]
  go_wp2
  exact bodyPost_ret (v := .tuple #[.agg #[.int .i64 (wrap64 (hiW (v / d))), .int .u64 (loW (v / d))], .int .i64 (wrap64 (v % d))]) (by simp [results, Try.results213, go_sem]) rfl ⟨by rw [E4.out, E5.out], belB⟩
/-- The Wide of a quotient that may be 2^127. -/
theorem over_wide {g : Int} (g0 : 0 ≤ g) (g1 : g ≤ 170141183460469231731687303715884105728) :
    ∃ x, InW x ∧ wrap64 (hiW g) = hiW x ∧ loW g = loW x ∧ negW x = -g := by
  by_cases h : g = 170141183460469231731687303715884105728
  · subst h
    refine ⟨-170141183460469231731687303715884105728, by unfold InW; omega, ?_, ?_, ?_⟩
    · rw [wrap64_def]; unfold hiW B64; omega
    · unfold loW B64; omega
    · unfold negW; simp
  · refine ⟨g, by unfold InW; omega, ?_, rfl, ?_⟩
    · apply wrap64_self; unfold In64 hiW B64; omega
    · unfold negW; rw [if_neg (by omega)]
theorem l02Of_exact (n : Int) (hn : In64 n) (h : n < 0) (w : World) : Calls Try.prog 216 #[.int .i64 n] w fun e w' =>
    e = .returned (.agg #[.int .i64 (hiW n), .int .u64 (loW n)]) ∧ w.alloc (.cells #[.int .i64 (hiW n), .int .u64 (loW n)] 112) = w' := by
  have e1 := Lib.hid (hiW_neg hn h)
  have e2 := Lib.hid (wrapU n)
  go_enter Try.func216, Try.ntmps216
  go_wp2
  exact bodyPost_ret (v := .agg #[.int .i64 (-1), .int .u64 (IntKind.u64.wrap n)]) (by simp [results, Try.results216, go_sem]) rfl ⟨by rw [e1.out, e2.out], by rw [e1.out, e2.out]⟩
theorem l02Div_neg (v d : Int) (hv : InW v) (hd : In64 d) (d0 : 1 ≤ d) (s : v < 0) (w : World) : Calls Try.prog 213 #[.agg #[.int .i64 (hiW v), .int .u64 (loW v)], .int .i64 d] w fun e w' =>
    e = .returned (.tuple #[.agg #[.int .i64 (hiW (v / d)), .int .u64 (loW (v / d))], .int .i64 (v % d)]) ∧ Below w.heap.size w w' := by
  have m0 : 0 ≤ -v := by omega
  have m1 : -v ≤ 170141183460469231731687303715884105728 := by unfold InW at hv; omega
  have g0 : 0 ≤ -v / d := Int.ediv_nonneg m0 (by omega)
  have g1 : -v / d ≤ 170141183460469231731687303715884105728 := by have := Int.ediv_le_self d m0; omega
  obtain ⟨x, hx, x1, x2, x3⟩ := over_wide g0 g1
  have X1 := Lib.hid x1
  have X2 := Lib.hid x2
  have X3 := Lib.hid x3
  have E6 := Lib.hid (abs_neg hv s)
  have E7 := Lib.hid (show loW d = d by unfold In64 at hd; exact loW_self (by unfold InU; omega))
  have R := rem_in (v := -v) d0
  obtain ⟨r0, r1⟩ := R
  have L := Lib.hid (ld_all m0 m1 d0)
  have D := Lib.hid (fun w => l02Divide_any (hiW (-v)) (loW (-v)) d (by unfold InU hiW B64; omega) (loW_in _) d0 (by have := hd.2; omega) w)
  have AB := Lib.hid (div_abs (v := v) d0)
  have D1 : d ≤ 9223372036854775807 := hd.2
  have NG := Lib.hid (show InW (-(-v / d)) by unfold InW; omega)
  have M1 := Lib.hid (show InW (-1) by unfold InW; omega)
  have M2 := Lib.hid (show In64 (-1) by unfold In64; omega)
  have s0 : hiW v < 0 := hi_neg_iff.2 s
  have s1 : ¬ 0 ≤ hiW v := by omega
  clear s x1 x2 x3 g0 g1 m0 m1
  by_cases z : -v % d = 0
  · have z0 : (-v % d == 0) = true := by simpa using z
    have V := Lib.hid (AB.out.1 z)
    clear z
    go_enter Try.func213, Try.ntmps213
    go_wp2_with fail
    refine (l02Minus_any v hv _).mono ?_
    rintro e w1 ⟨rfl, hb1⟩
    have hs1 : _ ≤ w1.heap.size := hb1.size
    try simp at hs1
    obtain ⟨hc1, hf1⟩ := old_kept hb1; have hz1 : w.heap.size + 1 < w1.heap.size := Nat.lt_of_lt_of_le (by first | omega | (simp; done) | (simp; omega)) hb1.size; have hz1a : w.heap.size < w1.heap.size := Nat.lt_of_lt_of_le (by first | omega | (simp; done) | (simp; omega)) hb1.size
    have k10 := hc1 (w.heap.size + 1) 0 (by first | assumption | omega | (simp; done) | (simp; omega)); have k11 := hc1 (w.heap.size + 1) 1 (by first | assumption | omega | (simp; done) | (simp; omega))
    go_wp2_with fail
    rw [wrapU, E6.out.1, E6.out.2]
    refine (D.out _).mono ?_
    rintro e wx ⟨rfl, rfl⟩
    rw [L.out.1, L.out.2.1, L.out.2.2]
    go_wp2_with fail
    rw [X1.out, X2.out]
    refine (l02Minus_any x hx _).mono ?_
    rintro e w2 ⟨rfl, hb2⟩
    have hs2 : _ ≤ w2.heap.size := hb2.size
    try simp at hs2
    rw [X3.out]
    obtain ⟨hc2, hf2⟩ := old_kept hb2; have hz2 : w.heap.size + 1 < w2.heap.size := Nat.lt_of_lt_of_le (by first | omega | (simp; done) | (simp; omega)) hb2.size; have hz2a : w.heap.size < w2.heap.size := Nat.lt_of_lt_of_le (by first | omega | (simp; done) | (simp; omega)) hb2.size
    have k20 := hc2 (w.heap.size + 1) 0 (by first | assumption | omega | (simp; done) | (simp; omega)); have k21 := hc2 (w.heap.size + 1) 1 (by first | assumption | omega | (simp; done) | (simp; omega))
    go_wp2
    exact bodyPost_ret (v := .tuple #[.agg #[.int .i64 (hiW (-(-v / d))), .int .u64 (loW (-(-v / d)))], .int .i64 0]) (by simp [results, Try.results213, go_sem, k20, k21, k10, k11, hz1, hz2]) rfl ⟨by rw [V.out.1, V.out.2], belB⟩
  · have z0 : (-v % d == 0) = false := by simpa using z
    have V := Lib.hid (AB.out.2 z)
    have AD := Lib.hid (show addW (-(-v / d)) (-1) = -(-v / d) - 1 from addW_self (by have := quo_in hv d0; rw [← V.out.1] at this; exact this))
    have W5 := Lib.hid (show wrap64 (-v % d) = -v % d from wrap64_self (by unfold In64; omega))
    clear z
    go_enter Try.func213, Try.ntmps213
    go_wp2_with fail
    refine (l02Minus_any v hv _).mono ?_
    rintro e w1 ⟨rfl, hb1⟩
    have hs1 : _ ≤ w1.heap.size := hb1.size
    try simp at hs1
    obtain ⟨hc1, hf1⟩ := old_kept hb1; have hz1 : w.heap.size + 1 < w1.heap.size := Nat.lt_of_lt_of_le (by first | omega | (simp; done) | (simp; omega)) hb1.size; have hz1a : w.heap.size < w1.heap.size := Nat.lt_of_lt_of_le (by first | omega | (simp; done) | (simp; omega)) hb1.size
    have k10 := hc1 (w.heap.size + 1) 0 (by first | assumption | omega | (simp; done) | (simp; omega)); have k11 := hc1 (w.heap.size + 1) 1 (by first | assumption | omega | (simp; done) | (simp; omega))
    go_wp2_with fail
    rw [wrapU, E6.out.1, E6.out.2]
    refine (D.out _).mono ?_
    rintro e wx ⟨rfl, rfl⟩
    rw [L.out.1, L.out.2.1, L.out.2.2]
    go_wp2_with fail
    rw [X1.out, X2.out]
    refine (l02Minus_any x hx _).mono ?_
    rintro e w2 ⟨rfl, hb2⟩
    have hs2 : _ ≤ w2.heap.size := hb2.size
    try simp at hs2
    rw [X3.out]
    obtain ⟨hc2, hf2⟩ := old_kept hb2; have hz2 : w.heap.size + 1 < w2.heap.size := Nat.lt_of_lt_of_le (by first | omega | (simp; done) | (simp; omega)) hb2.size; have hz2a : w.heap.size < w2.heap.size := Nat.lt_of_lt_of_le (by first | omega | (simp; done) | (simp; omega)) hb2.size
    have k20 := hc2 (w.heap.size + 1) 0 (by first | assumption | omega | (simp; done) | (simp; omega)); have k21 := hc2 (w.heap.size + 1) 1 (by first | assumption | omega | (simp; done) | (simp; omega))
    go_wp2_with fail
    have OF := Lib.hid (fun w => l02Of_exact (-1) M2.out (by omega) w)
    have PL := Lib.hid (fun w => l02Plus_any (-(-v / d)) (-1) NG.out M1.out w)
    rw [AD.out] at PL
    obtain ⟨zz0, zz1, zz2, zz3, zz4, zz5, zz6, zz7, zz8⟩ := below_more hz2
    obtain ⟨hlt2, hlt3, hlt4, hlt5, hlt6, hlt7, hlt8, hlt9, hlt10, hlt11⟩ := below_add; go_region_held3 (fun w' => w'.cell? ⟨w2.heap.size, 0, none⟩ = some (.int .i64 (hiW (-(-v / d)))) ∧ w'.cell? ⟨w2.heap.size, 1, none⟩ = some (.int .u64 (loW (-(-v / d))))) (first | (with_reducible exact ((And.imp (cell_kept (by assumption)) (cell_kept (by assumption))) (by assumption))) | (with_reducible exact ((And.imp (cell_alloc) (cell_alloc)) (by assumption))) | (with_reducible exact ((And.imp (fun h => cell_far (by first | (simp; done) | (simp; omega)) (cell_far (by first | (simp; done) | (simp; omega)) h)) (fun h => cell_far (by first | (simp; done) | (simp; omega)) (cell_far (by first | (simp; done) | (simp; omega)) h))) (by assumption))) | (refine ⟨?_, ?_⟩ <;> repeat (first | (with_reducible assumption) | (with_reducible refine cell_far (by first | (simp; done) | (simp; omega)) ?_) | (with_reducible refine cell_drew ?_) | (with_reducible refine cell_drewN ?_) | (with_reducible refine cell_kept (by assumption) ?_) | (simp [go_sem]; done) | (with_reducible refine cell_alloc ?_))) | (simp [go_sem, *]; done)) (first | (go_at_call 216; refine (OF.out _).mono ?_; rintro e w1 ⟨rfl, rfl⟩) | (go_at_call 167; refine (PL.out _).mono ?_; rintro e w1 ⟨rfl, hb⟩; have hs : _ ≤ w1.heap.size := hb.size; (try simp at hs); obtain ⟨hc, hf, hl, hn, hm⟩ := behind hb))
    go_wp2
    have j0 : w1.cell? ⟨w.heap.size + 1, 0, none⟩ = some (.int .i64 0) := by rw [hc _ _ (by simp; omega)]; simp [go_sem, *]
    have j1 : w1.cell? ⟨w.heap.size + 1, 1, none⟩ = some (.int .u64 0) := by rw [hc _ _ (by simp; omega)]; simp [go_sem, *]
    have WX := Lib.hid (show IntKind.i64.wrap (d - IntKind.i64.wrap (-v % d)) = d - -v % d by rw [IntKind.wrap_i64, IntKind.wrap_i64]; omega)
    exact bodyPost_ret (v := .tuple #[.agg #[.int .i64 (hiW (-(-v / d) - 1)), .int .u64 (loW (-(-v / d) - 1))], .int .i64 (IntKind.i64.wrap (d - IntKind.i64.wrap (-v % d)))]) (by simp [results, Try.results213, go_sem, j0, j1]) rfl ⟨by rw [WX.out, V.out.1, V.out.2], belB⟩
theorem l02Div_any (v d : Int) (hv : InW v) (hd : In64 d) (d0 : 1 ≤ d) (w : World) : Calls Try.prog 213 #[.agg #[.int .i64 (hiW v), .int .u64 (loW v)], .int .i64 d] w fun e w' =>
    e = .returned (.tuple #[.agg #[.int .i64 (hiW (v / d)), .int .u64 (loW (v / d))], .int .i64 (v % d)]) ∧ Below w.heap.size w w' := by
  by_cases s : v < 0
  · exact l02Div_neg v d hv hd d0 s w
  · exact l02Div_pos v d hv hd d0 s w
end Go.Proofs.Ytmikjgbojknlnaa
namespace Go.Proofs.Ytmikjgbojknlnaa
open Go.ChangeShapes Go.WideShapes Go.ChangeAt Go.RowKit
set_option linter.unusedVariables false
set_option maxRecDepth 100000
set_option linter.unusedSimpArgs false
set_option maxHeartbeats 1000000

/-- A product, divided by a number: the number, and whether it is an int64. -/
def mdI (a b d : Int) : Int := if 1 ≤ d then intW (a * b / d) else 0
def mdB (a b d : Int) : Bool := if 1 ≤ d then okW (a * b / d) else false
theorem sMulDivFloor_any (a b d : Int) (ha : In64 a) (hb : In64 b) (hd : In64 d) (w : World) : Calls Try.prog 204 #[.int .i64 a, .int .i64 b, .int .i64 d] w fun e w' =>
    e = .returned (.tuple #[.int .i64 (mdI a b d), .bool (mdB a b d)]) ∧ Below w.heap.size w w' := by
  by_cases c : 1 ≤ d
  · have E1 := Lib.hid (show mdI a b d = intW (a * b / d) from if_pos c)
    have E2 := Lib.hid (show mdB a b d = okW (a * b / d) from if_pos c)
    have dp : ¬ d ≤ 0 := by omega
    go_enter Try.func204, Try.ntmps204
    go_wp2_with fail
    refine (l02Mul_any a b ha hb _).mono ?_
    rintro e w1 ⟨rfl, hb1⟩
    have hs1 : _ ≤ w1.heap.size := hb1.size
    try simp at hs1
    go_wp2_with fail
    refine (l02Div_any (a * b) d (mul_in ha hb) hd c _).mono ?_
    rintro e w2 ⟨rfl, hb2⟩
    have hs2 : _ ≤ w2.heap.size := hb2.size
    try simp at hs2
    go_wp2_with fail
    refine (l02Int_any (a * b / d) (quo_in (mul_in ha hb) c) _).mono ?_
    rintro e w3 ⟨rfl, hb3⟩
    have hs3 : _ ≤ w3.heap.size := hb3.size
    try simp at hs3
    go_wp2
    go_ret2
    exact ⟨by simp [E1.out, E2.out], belB⟩
  · have E1 := Lib.hid (show mdI a b d = 0 from if_neg c)
    have E2 := Lib.hid (show mdB a b d = false from if_neg c)
    have dp : d ≤ 0 := by omega
    clear c
    go_enter Try.func204, Try.ntmps204
    go_wp2
    go_ret2
    exact ⟨by simp [E1.out, E2.out], belB⟩
end Go.Proofs.Ytmikjgbojknlnaa
