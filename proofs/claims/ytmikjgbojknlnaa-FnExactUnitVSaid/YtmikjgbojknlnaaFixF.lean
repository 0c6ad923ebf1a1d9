/- Contracts of roots of fixes in the model, and the laws of chapter 3. Conditions: numbers are int64. -/
import Derived.Test.YtmikjgbojknlnaaFixE
import Derived.Test.YtmikjgbojknlnaaFixZc
import Derived.Outline
namespace Go.Proofs.Ytmikjgbojknlnaa
open Go.ChangeShapes Go.WideShapes Go.ChangeAt Go.RowKit
set_option linter.unusedVariables false
set_option maxRecDepth 100000
set_option linter.unusedSimpArgs false
set_option maxHeartbeats 1000000

theorem okR_yes {a : Int} (h : 0 ≤ a) (k : a ≤ 1152921504606846976) : okR a = true := decide_eq_true ⟨h, k⟩
theorem okR_no {a : Int} (h : a < 0 ∨ 1152921504606846976 < a) : okR a = false := decide_eq_false (by omega)
theorem rtD_fix {a : Int} (a1 : a ≤ 1152921504606846976) : InF (rtD a) := by have := rtD_in a1; unfold InF; omega
theorem rtU_fix {a : Int} (a1 : a ≤ 1152921504606846976) : InF (rtU a) := by have := rtU_in a1; unfold InF; omega
theorem l03SqrtDown_any (a : Int) (ha : In64 a) (w : World) : Calls Try.prog 149 #[.int .i64 a] w fun e w' =>
    e = .returned (.tuple #[.int .i64 (resI (okR a) (rtD a)), .bool (resB (okR a) (rtD a))]) ∧ Below w.heap.size w w' := by
  by_cases c : 0 ≤ a ∧ a ≤ 1152921504606846976
  · have E := Lib.hid (res_yes (okR_yes c.1 c.2) (rtD_fix c.2))
    have C := Lib.hid (fun w => l00In_yes a 0 1152921504606846976 c.1 c.2 w)
    have S := Lib.hid (fun w => sSqrtFloor_any a 4294967296 ha (by unfold In64; omega) w)
    have S1 := Lib.hid (sf_unit ha c.2)
    have S2 := Lib.hid (show decide (0 ≤ a) = true from decide_eq_true c.1)
    clear c ha
    go_enter Try.func149, Try.ntmps149
    go_wp2_with fail
    refine (C.out _).mono ?_
    rintro e w0 ⟨rfl, rfl⟩
    go_wp2_with fail
    refine (S.out _).mono ?_
    rintro e w1 ⟨rfl, hb1⟩
    have hs1 : _ ≤ w1.heap.size := hb1.size
    try simp at hs1
    rw [S1.out.1, S1.out.2, S2.out]
    go_wp2
    go_ret2
    exact ⟨(by first | (rw [E.out.1, E.out.2]; done) | (rw [E.out.1, E.out.2]; rfl) | (simp [E.out.1, E.out.2]; done)), belB⟩
  · have c' : a < 0 ∨ 1152921504606846976 < a := by omega
    have E := Lib.hid (res_none (v := rtD a) (okR_no c'))
    have C := Lib.hid (fun w => l00In_no a 0 1152921504606846976 c' w)
    clear c c' ha
    go_enter Try.func149, Try.ntmps149
    go_wp2_with fail
    refine (C.out _).mono ?_
    rintro e w0 ⟨rfl, rfl⟩
    go_wp2
    go_ret2
    exact ⟨(by first | (rw [E.out.1, E.out.2]; done) | (rw [E.out.1, E.out.2]; rfl) | (simp [E.out.1, E.out.2]; done)), belB⟩
theorem mf_square {n : Int} (h : In64 (n * n / 4294967296)) : mfI n n 32 = n * n / 4294967296 := by
  rw [(mf_unit n n).1, intW_self h]
theorem wrap_low (n : Int) : wrap64 n % 4294967296 = n % 4294967296 := by rw [wrap64_def]; omega
theorem l03SqrtUp_any (a : Int) (ha : In64 a) (w : World) : Calls Try.prog 151 #[.int .i64 a] w fun e w' =>
    e = .returned (.tuple #[.int .i64 (resI (okR a) (rtU a)), .bool (resB (okR a) (rtU a))]) ∧ Below w.heap.size w w' := by
  have D := Lib.hid (fun w => l03SqrtDown_any a ha w)
  by_cases c : 0 ≤ a ∧ a ≤ 1152921504606846976
  · have E := Lib.hid (res_yes (okR_yes c.1 c.2) (rtU_fix c.2))
    have E1 := Lib.hid (res_yes (okR_yes c.1 c.2) (rtD_fix c.2))
    have sp := rtD_spec c.1 c.2
    have T := root_test c.1 c.2
    obtain ⟨n, hn⟩ : ∃ n, n = rtD a := ⟨_, rfl⟩
    have U : rtU a = if n * n = a * 4294967296 then n else n + 1 := by rw [hn]; rfl
    rw [← hn] at sp T E1 D
    have M := Lib.hid (fun w => sMulFloor_any n n 32 (by unfold In64; omega) (by unfold In64; omega) (by unfold In64; omega) w)
    have q : In64 (n * n / 4294967296) := by
      have : 0 ≤ n * n := Int.mul_nonneg sp.1 sp.1
      unfold In64; omega
    have M1 := Lib.hid (mf_square q)
    have K := Lib.hid (and_mask32 (wrap64 (n * n)))
    have L := Lib.hid (wrap_low (n * n))
    obtain ⟨s0, s1, s2, s3⟩ := sp
    clear hn q s2 s3
    by_cases x : n * n = a * 4294967296
    · have V := Lib.hid (U.trans (if_pos x))
      have x1 : (n * n / 4294967296 != a) = false := by have := (T.2 x).1; simpa using this
      have x2 : (bits .and .i64 (wrap64 (n * n)) 4294967295 != 0) = false := by rw [K.out, L.out, (T.2 x).2]; rfl
      clear U T x c ha
      go_enter Try.func151, Try.ntmps151
      go_wp2_with fail
      refine (D.out _).mono ?_
      rintro e w1 ⟨rfl, hb1⟩
      have hs1 : _ ≤ w1.heap.size := hb1.size
      try simp at hs1
      rw [E1.out.1, E1.out.2]
      go_wp2_with fail
      refine (M.out _).mono ?_
      rintro e w2 ⟨rfl, hb2⟩
      have hs2 : _ ≤ w2.heap.size := hb2.size
      try simp at hs2
      rw [M1.out]
      go_wp2
      go_ret2
      exact ⟨(by first | (rw [E.out.1, E.out.2, V.out]; done) | (rw [E.out.1, E.out.2, V.out]; rfl) | (simp [E.out.1, E.out.2, V.out]; done)), belB⟩
    · have V := Lib.hid (U.trans (if_neg x))
      by_cases y : n * n / 4294967296 = a
      · have x1 : (n * n / 4294967296 != a) = false := by simpa using y
        have x2 : (bits .and .i64 (wrap64 (n * n)) 4294967295 != 0) = true := by
          rw [K.out, L.out]; simp; intro z; exact x (T.1 ⟨y, z⟩)
        clear y
        clear U T x c ha
        go_enter Try.func151, Try.ntmps151
        go_wp2_with fail
        refine (D.out _).mono ?_
        rintro e w1 ⟨rfl, hb1⟩
        have hs1 : _ ≤ w1.heap.size := hb1.size
        try simp at hs1
        rw [E1.out.1, E1.out.2]
        go_wp2_with fail
        refine (M.out _).mono ?_
        rintro e w2 ⟨rfl, hb2⟩
        have hs2 : _ ≤ w2.heap.size := hb2.size
        try simp at hs2
        rw [M1.out]
        go_wp2
        go_ret2
        exact ⟨(by first | (rw [E.out.1, E.out.2, V.out]; done) | (rw [E.out.1, E.out.2, V.out]; rfl) | (simp [E.out.1, E.out.2, V.out]; done)), belB⟩
      · have x1 : (n * n / 4294967296 != a) = true := by simpa using y
        clear y
        clear U T x c ha
        go_enter Try.func151, Try.ntmps151
        go_wp2_with fail
        refine (D.out _).mono ?_
        rintro e w1 ⟨rfl, hb1⟩
        have hs1 : _ ≤ w1.heap.size := hb1.size
        try simp at hs1
        rw [E1.out.1, E1.out.2]
        go_wp2_with fail
        refine (M.out _).mono ?_
        rintro e w2 ⟨rfl, hb2⟩
        have hs2 : _ ≤ w2.heap.size := hb2.size
        try simp at hs2
        rw [M1.out]
        go_wp2
        go_ret2
        exact ⟨(by first | (rw [E.out.1, E.out.2, V.out]; done) | (rw [E.out.1, E.out.2, V.out]; rfl) | (simp [E.out.1, E.out.2, V.out]; done)), belB⟩
  · have c' : a < 0 ∨ 1152921504606846976 < a := by omega
    have E := Lib.hid (res_none (v := rtU a) (okR_no c'))
    have E' := Lib.hid (res_none (v := rtD a) (okR_no c'))
    clear c c' ha
    go_enter Try.func151, Try.ntmps151
    go_wp2_with fail
    refine (D.out _).mono ?_
    rintro e w1 ⟨rfl, hb1⟩
    have hs1 : _ ≤ w1.heap.size := hb1.size
    try simp at hs1
    rw [E'.out.1, E'.out.2]
    go_wp2
    go_ret2
    exact ⟨(by first | (rw [E.out.1, E.out.2]; done) | (rw [E.out.1, E.out.2]; rfl) | (simp [E.out.1, E.out.2]; done)), belB⟩
theorem sSqrtDown_any (a : Int) (ha : In64 a) (w : World) : Calls Try.prog 83 #[.int .i64 a] w fun e w' =>
    e = .returned (.tuple #[.int .i64 (resI (okR a) (rtD a)), .bool (resB (okR a) (rtD a))]) ∧ Below w.heap.size w w' := by
  go_enter Try.func83, Try.ntmps83
  go_wp2_with fail
  refine (l03SqrtDown_any a ha _).mono ?_
  rintro e w1 ⟨rfl, hb1⟩
  have hs1 : _ ≤ w1.heap.size := hb1.size
  try simp at hs1
  go_wp2
  go_ret2
  exact ⟨rfl, belB⟩
theorem law_SqrtDown (a : Int) (ha : In64 a) (w : World) : Calls Try.prog 25 #[.int .i64 a] w fun e w' =>
    e = .returned (.bool true) ∧ Below w.heap.size w w' := by
  go_enter Try.func25, Try.ntmps25
  go_wp2_with fail
  refine (sSqrtDown_any a ha _).mono ?_
  rintro e w1 ⟨rfl, hb1⟩
  have hs1 : _ ≤ w1.heap.size := hb1.size
  try simp at hs1
  go_wp2_with fail
  refine (SqrtDown_any a ha _).mono ?_
  rintro e w2 ⟨rfl, hb2⟩
  have hs2 : _ ≤ w2.heap.size := hb2.size
  try simp at hs2
  go_wp2
  go_ret
  exact ⟨rfl, belB⟩
theorem sSqrtUp_any (a : Int) (ha : In64 a) (w : World) : Calls Try.prog 85 #[.int .i64 a] w fun e w' =>
    e = .returned (.tuple #[.int .i64 (resI (okR a) (rtU a)), .bool (resB (okR a) (rtU a))]) ∧ Below w.heap.size w w' := by
  go_enter Try.func85, Try.ntmps85
  go_wp2_with fail
  refine (l03SqrtUp_any a ha _).mono ?_
  rintro e w1 ⟨rfl, hb1⟩
  have hs1 : _ ≤ w1.heap.size := hb1.size
  try simp at hs1
  go_wp2
  go_ret2
  exact ⟨rfl, belB⟩
theorem law_SqrtUp (a : Int) (ha : In64 a) (w : World) : Calls Try.prog 26 #[.int .i64 a] w fun e w' =>
    e = .returned (.bool true) ∧ Below w.heap.size w w' := by
  go_enter Try.func26, Try.ntmps26
  go_wp2_with fail
  refine (sSqrtUp_any a ha _).mono ?_
  rintro e w1 ⟨rfl, hb1⟩
  have hs1 : _ ≤ w1.heap.size := hb1.size
  try simp at hs1
  go_wp2_with fail
  refine (SqrtUp_any a ha _).mono ?_
  rintro e w2 ⟨rfl, hb2⟩
  have hs2 : _ ≤ w2.heap.size := hb2.size
  try simp at hs2
  go_wp2
  go_ret
  exact ⟨rfl, belB⟩
end Go.Proofs.Ytmikjgbojknlnaa
