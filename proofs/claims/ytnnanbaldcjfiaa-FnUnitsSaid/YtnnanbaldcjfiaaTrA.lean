/- Contracts of multiples of pi, program and model. Conditions: numbers are int64. -/
import Derived.Test.YtnnanbaldcjfiaaNumP
import Derived.Test.YtnnanbaldcjfiaaIvE
import Derived.Test.YtnnanbaldcjfiaaIvF
import Derived.Test.YtnnanbaldcjfiaaIvM
import Derived.Test.YtnnanbaldcjfiaaIvLd
import Derived.Outline
namespace Go.Proofs.Ytnnanbaldcjfiaa
open Go.ChangeShapes Go.WideShapes Go.ChangeAt Go.RowKit
set_option linter.unusedVariables false
set_option maxRecDepth 100000
set_option linter.unusedSimpArgs false
set_option maxHeartbeats 1000000
theorem turnLit (k : Int) (h0 : 0 ≤ k) (h1 : k ≤ 4096) (w : World) : Calls Try.prog 83 #[.int .i64 k] w fun e w' =>
    e = .returned (.agg #[.int .i64 (turP k).1, .int .i64 (turP k).2]) ∧ Below w.heap.size w w' := by
  have M := Lib.hid (fun w => MulFloor_any k 7244019458077122842 30 (by unfold In64; omega) (by unfold In64; omega) (by unfold In64; omega) w)
  obtain ⟨l0, l1, l2⟩ := turP_in h0 h1
  have E := Lib.hid (show mfI k 7244019458077122842 30 = (turP k).1 from mf_turn h0 h1)
  have T := Lib.hid l1
  rw [l1] at l2
  generalize (turP k).1 = l at *
  clear l1
  generalize (turP k).2 = r at *
  clear h0 h1
  go_enter Try.func83, Try.ntmps83
  go_wp2_with fail
  refine (M.out _).mono ?_
  rintro e w1 ⟨rfl, hb1⟩
  have hs1 : _ ≤ w1.heap.size := hb1.size
  try simp at hs1
  rw [E.out]
  have o_qr10 : Own (w1) (w.heap.size) 0 (.int .i64 0) := ownJ; obtain ⟨qr10, f_qr10⟩ := o_qr10; have o_qr11 : Own (w1) (w.heap.size) 1 (.int .i64 0) := ownJ; obtain ⟨qr11, f_qr11⟩ := o_qr11
  go_wp2
  exact bodyPost_ret (v := .agg #[.int .i64 l, .int .i64 (l + 1)]) (by simp [results, Try.results83, go_sem, qr10, qr11]) rfl ⟨by rw [T.out], belB⟩
theorem multiple_T (k : Int) (w : World) : Calls Try.prog 48 #[.int .i64 k, .int .i64 4096, .func (Fn.func 83) #[] #[]] w fun e w' =>
    e = .returned (.agg #[.int .i64 (turI k).1, .int .i64 (turI k).2]) ∧ Below w.heap.size w w' := by
  by_cases o : k < -4096
  · have E := Lib.hid (show turI k = whl from (turI_out (.inl o)))
    go_enter Try.func48, Try.ntmps48
    go_wp2_with fail
    refine (Whole_any _).mono ?_
    rintro e w1 ⟨rfl, hb1⟩
    have hs1 : _ ≤ w1.heap.size := hb1.size
    try simp at hs1
    have o_qr10 : Own (w1) (w.heap.size) 0 (.int .i64 0) := ownJ; obtain ⟨qr10, f_qr10⟩ := o_qr10; have o_qr11 : Own (w1) (w.heap.size) 1 (.int .i64 0) := ownJ; obtain ⟨qr11, f_qr11⟩ := o_qr11
    go_wp2
    exact bodyPost_ret (v := .agg #[.int .i64 (-1152921504606846976), .int .i64 1152921504606846976]) (by simp [results, Try.results48, go_sem, qr10, qr11]) rfl ⟨(by first | (rw [E.out]; done) | (rw [E.out]; rfl) | (simp [E.out]; done)), belB⟩
  · by_cases o : 4096 < k
    · have E := Lib.hid (show turI k = whl from (turI_out (.inr o)))
      go_enter Try.func48, Try.ntmps48
      go_wp2_with fail
      refine (Whole_any _).mono ?_
      rintro e w1 ⟨rfl, hb1⟩
      have hs1 : _ ≤ w1.heap.size := hb1.size
      try simp at hs1
      have o_qr10 : Own (w1) (w.heap.size) 0 (.int .i64 0) := ownJ; obtain ⟨qr10, f_qr10⟩ := o_qr10; have o_qr11 : Own (w1) (w.heap.size) 1 (.int .i64 0) := ownJ; obtain ⟨qr11, f_qr11⟩ := o_qr11
      go_wp2
      exact bodyPost_ret (v := .agg #[.int .i64 (-1152921504606846976), .int .i64 1152921504606846976]) (by simp [results, Try.results48, go_sem, qr10, qr11]) rfl ⟨(by first | (rw [E.out]; done) | (rw [E.out]; rfl) | (simp [E.out]; done)), belB⟩
    · have b0 : -4096 ≤ k := by omega
      have b1 : k ≤ 4096 := by omega
      by_cases s : k < 0
      · have E := Lib.hid (show turI k = negI (turP (-k)) by rw [turI_in (by omega) (by omega), turM_neg s (by omega)])
        have L := Lib.hid (fun w => turnLit (-k) (by omega) (by omega) w)
        have G := Lib.hid (fun w => NegI_any (turP (-k)) w)
        generalize turP (-k) = y at *
        generalize turI k = Y at *
        go_enter Try.func48, Try.ntmps48
        go_wp2_with fail
        refine (L.out _).mono ?_
        rintro e w1 ⟨rfl, hb1⟩
        have hs1 : _ ≤ w1.heap.size := hb1.size
        try simp at hs1
        go_wp2_with fail
        refine (G.out _).mono ?_
        rintro e w2 ⟨rfl, hb2⟩
        have hs2 : _ ≤ w2.heap.size := hb2.size
        try simp at hs2
        have o_qr20 : Own (w2) (w.heap.size) 0 (.int .i64 0) := ownJ; obtain ⟨qr20, f_qr20⟩ := o_qr20; have o_qr21 : Own (w2) (w.heap.size) 1 (.int .i64 0) := ownJ; obtain ⟨qr21, f_qr21⟩ := o_qr21
        go_wp2
        exact bodyPost_ret (v := .agg #[.int .i64 (negI y).1, .int .i64 (negI y).2]) (by simp [results, Try.results48, go_sem, qr20, qr21]) rfl ⟨(by first | (rw [E.out]; done) | (rw [E.out]; rfl) | (simp [E.out]; done)), belB⟩
      · by_cases z : k = 0
        · subst z
          have E := Lib.hid (show turI 0 = intI 0 by rw [int_zero]; rfl)
          have G := Lib.hid (fun w => Integer_any 0 (by unfold In64; omega) w)
          generalize turI 0 = Y at *
          clear o s b0 b1
          go_enter Try.func48, Try.ntmps48
          go_wp2_with fail
          refine (G.out _).mono ?_
          rintro e w1 ⟨rfl, hb1⟩
          have hs1 : _ ≤ w1.heap.size := hb1.size
          try simp at hs1
          have o_qr10 : Own (w1) (w.heap.size) 0 (.int .i64 0) := ownJ; obtain ⟨qr10, f_qr10⟩ := o_qr10; have o_qr11 : Own (w1) (w.heap.size) 1 (.int .i64 0) := ownJ; obtain ⟨qr11, f_qr11⟩ := o_qr11
          go_wp2
          exact bodyPost_ret (v := .agg #[.int .i64 (intI 0).1, .int .i64 (intI 0).2]) (by simp [results, Try.results48, go_sem, qr10, qr11]) rfl ⟨(by first | (rw [E.out]; done) | (rw [E.out]; rfl) | (simp [E.out]; done)), belB⟩
        · have E := Lib.hid (show turI k = turP k by rw [turI_in (by omega) (by omega), turM_pos (by omega)])
          have L := Lib.hid (fun w => turnLit k (by omega) (by omega) w)
          have p : 0 < k := by omega
          clear s z
          generalize turI k = Y at *
          generalize turP k = z at *
          go_enter Try.func48, Try.ntmps48
          go_wp2_with fail
          refine (L.out _).mono ?_
          rintro e w1 ⟨rfl, hb1⟩
          have hs1 : _ ≤ w1.heap.size := hb1.size
          try simp at hs1
          have o_qr10 : Own (w1) (w.heap.size) 0 (.int .i64 0) := ownJ; obtain ⟨qr10, f_qr10⟩ := o_qr10; have o_qr11 : Own (w1) (w.heap.size) 1 (.int .i64 0) := ownJ; obtain ⟨qr11, f_qr11⟩ := o_qr11
          go_wp2
          exact bodyPost_ret (v := .agg #[.int .i64 (z).1, .int .i64 (z).2]) (by simp [results, Try.results48, go_sem, qr10, qr11]) rfl ⟨(by first | (rw [E.out]; done) | (rw [E.out]; rfl) | (simp [E.out]; done)), belB⟩
theorem TurnI_any (k : Int) (w : World) : Calls Try.prog 33 #[.int .i64 k] w fun e w' =>
    e = .returned (.agg #[.int .i64 (turI k).1, .int .i64 (turI k).2]) ∧ Below w.heap.size w w' := by
  go_enter Try.func33, Try.ntmps33
  go_wp2_with fail
  refine (multiple_T k _).mono ?_
  rintro e w1 ⟨rfl, hb1⟩
  have hs1 : _ ≤ w1.heap.size := hb1.size
  try simp at hs1
  have o_qr10 : Own (w1) (w.heap.size) 0 (.int .i64 0) := ownJ; obtain ⟨qr10, f_qr10⟩ := o_qr10; have o_qr11 : Own (w1) (w.heap.size) 1 (.int .i64 0) := ownJ; obtain ⟨qr11, f_qr11⟩ := o_qr11
  go_wp2
  exact bodyPost_ret (v := .agg #[.int .i64 (turI k).1, .int .i64 (turI k).2]) (by simp [results, Try.results33, go_sem, qr10, qr11]) rfl ⟨rfl, belB⟩
theorem radLit (k : Int) (h0 : 0 ≤ k) (h1 : k ≤ 36000000000) (w : World) : Calls Try.prog 88 #[.int .i64 k] w fun e w' =>
    e = .returned (.agg #[.int .i64 (radP k).1, .int .i64 (radP k).2]) ∧ Below w.heap.size w w' := by
  have M := Lib.hid (fun w => MulDivFloor_any k 7244019458077122842 966367641600000000 (by unfold In64; omega) (by unfold In64; omega) (by unfold In64; omega) w)
  have M' := Lib.hid (fun w => MulDivFloor_any k 7244019458077122843 966367641600000000 (by unfold In64; omega) (by unfold In64; omega) (by unfold In64; omega) w)
  obtain ⟨l0, l1, l2⟩ := radP_in h0 h1
  obtain ⟨e1, e2⟩ := md_rad h0 h1
  have E := Lib.hid (show mdI k 7244019458077122842 966367641600000000 = (radP k).1 from e1)
  obtain ⟨r, hr⟩ : ∃ r, r = k * 7244019458077122843 / 966367641600000000 := ⟨_, rfl⟩
  have E' := Lib.hid (show mdI k 7244019458077122843 966367641600000000 = r by rw [e2, hr])
  have hR : (radP k).2 = r + 1 := by rw [hr]; rfl
  have T := Lib.hid hR
  rw [hR] at l1 l2
  clear e1 e2 hR hr
  generalize (radP k).1 = l at *
  generalize (radP k).2 = g at *
  clear h0 h1
  go_enter Try.func88, Try.ntmps88
  go_wp2_with fail
  refine (M.out _).mono ?_
  rintro e w1 ⟨rfl, hb1⟩
  have hs1 : _ ≤ w1.heap.size := hb1.size
  try simp at hs1
  rw [E.out]
  have o_qr10 : Own (w1) (w.heap.size) 0 (.int .i64 0) := ownJ; have qr10 := o_qr10.1; have f_qr10 := o_qr10.2; have o_qr11 : Own (w1) (w.heap.size) 1 (.int .i64 0) := ownJ; have qr11 := o_qr11.1; have f_qr11 := o_qr11.2
  go_wp2_with fail
  refine (M'.out _).mono ?_
  rintro e w2 ⟨rfl, hb2⟩
  have hs2 : _ ≤ w2.heap.size := hb2.size
  try simp at hs2
  rw [E'.out]
  have o_qr20 : Own (w2) (w.heap.size) 0 (.int .i64 0) := ownJ; obtain ⟨qr20, f_qr20⟩ := o_qr20; have o_qr21 : Own (w2) (w.heap.size) 1 (.int .i64 0) := ownJ; obtain ⟨qr21, f_qr21⟩ := o_qr21
  go_wp2
  exact bodyPost_ret (v := .agg #[.int .i64 l, .int .i64 (r + 1)]) (by simp [results, Try.results88, go_sem, qr20, qr21]) rfl ⟨by rw [T.out], belB⟩
theorem multiple_R (k : Int) (w : World) : Calls Try.prog 48 #[.int .i64 k, .int .i64 36000000000, .func (Fn.func 88) #[] #[]] w fun e w' =>
    e = .returned (.agg #[.int .i64 (radI k).1, .int .i64 (radI k).2]) ∧ Below w.heap.size w w' := by
  by_cases o : k < -36000000000
  · have E := Lib.hid (show radI k = whl from (radI_out (.inl o)))
    go_enter Try.func48, Try.ntmps48
    go_wp2_with fail
    refine (Whole_any _).mono ?_
    rintro e w1 ⟨rfl, hb1⟩
    have hs1 : _ ≤ w1.heap.size := hb1.size
    try simp at hs1
    have o_qr10 : Own (w1) (w.heap.size) 0 (.int .i64 0) := ownJ; obtain ⟨qr10, f_qr10⟩ := o_qr10; have o_qr11 : Own (w1) (w.heap.size) 1 (.int .i64 0) := ownJ; obtain ⟨qr11, f_qr11⟩ := o_qr11
    go_wp2
    exact bodyPost_ret (v := .agg #[.int .i64 (-1152921504606846976), .int .i64 1152921504606846976]) (by simp [results, Try.results48, go_sem, qr10, qr11]) rfl ⟨(by first | (rw [E.out]; done) | (rw [E.out]; rfl) | (simp [E.out]; done)), belB⟩
  · by_cases o : 36000000000 < k
    · have E := Lib.hid (show radI k = whl from (radI_out (.inr o)))
      go_enter Try.func48, Try.ntmps48
      go_wp2_with fail
      refine (Whole_any _).mono ?_
      rintro e w1 ⟨rfl, hb1⟩
      have hs1 : _ ≤ w1.heap.size := hb1.size
      try simp at hs1
      have o_qr10 : Own (w1) (w.heap.size) 0 (.int .i64 0) := ownJ; obtain ⟨qr10, f_qr10⟩ := o_qr10; have o_qr11 : Own (w1) (w.heap.size) 1 (.int .i64 0) := ownJ; obtain ⟨qr11, f_qr11⟩ := o_qr11
      go_wp2
      exact bodyPost_ret (v := .agg #[.int .i64 (-1152921504606846976), .int .i64 1152921504606846976]) (by simp [results, Try.results48, go_sem, qr10, qr11]) rfl ⟨(by first | (rw [E.out]; done) | (rw [E.out]; rfl) | (simp [E.out]; done)), belB⟩
    · have b0 : -36000000000 ≤ k := by omega
      have b1 : k ≤ 36000000000 := by omega
      by_cases s : k < 0
      · have E := Lib.hid (radI_neg (u := k) s (by omega))
        have L := Lib.hid (fun w => radLit (-k) (by omega) (by omega) w)
        have G := Lib.hid (fun w => NegI_any (radP (-k)) w)
        generalize radP (-k) = y at *
        generalize radI k = Y at *
        go_enter Try.func48, Try.ntmps48
        go_wp2_with fail
        refine (L.out _).mono ?_
        rintro e w1 ⟨rfl, hb1⟩
        have hs1 : _ ≤ w1.heap.size := hb1.size
        try simp at hs1
        go_wp2_with fail
        refine (G.out _).mono ?_
        rintro e w2 ⟨rfl, hb2⟩
        have hs2 : _ ≤ w2.heap.size := hb2.size
        try simp at hs2
        have o_qr20 : Own (w2) (w.heap.size) 0 (.int .i64 0) := ownJ; obtain ⟨qr20, f_qr20⟩ := o_qr20; have o_qr21 : Own (w2) (w.heap.size) 1 (.int .i64 0) := ownJ; obtain ⟨qr21, f_qr21⟩ := o_qr21
        go_wp2
        exact bodyPost_ret (v := .agg #[.int .i64 (negI y).1, .int .i64 (negI y).2]) (by simp [results, Try.results48, go_sem, qr20, qr21]) rfl ⟨(by first | (rw [E.out]; done) | (rw [E.out]; rfl) | (simp [E.out]; done)), belB⟩
      · by_cases z : k = 0
        · subst z
          have E := Lib.hid (show radI 0 = intI 0 by rw [int_zero]; rfl)
          have G := Lib.hid (fun w => Integer_any 0 (by unfold In64; omega) w)
          generalize radI 0 = Y at *
          clear o s b0 b1
          go_enter Try.func48, Try.ntmps48
          go_wp2_with fail
          refine (G.out _).mono ?_
          rintro e w1 ⟨rfl, hb1⟩
          have hs1 : _ ≤ w1.heap.size := hb1.size
          try simp at hs1
          have o_qr10 : Own (w1) (w.heap.size) 0 (.int .i64 0) := ownJ; obtain ⟨qr10, f_qr10⟩ := o_qr10; have o_qr11 : Own (w1) (w.heap.size) 1 (.int .i64 0) := ownJ; obtain ⟨qr11, f_qr11⟩ := o_qr11
          go_wp2
          exact bodyPost_ret (v := .agg #[.int .i64 (intI 0).1, .int .i64 (intI 0).2]) (by simp [results, Try.results48, go_sem, qr10, qr11]) rfl ⟨(by first | (rw [E.out]; done) | (rw [E.out]; rfl) | (simp [E.out]; done)), belB⟩
        · have E := Lib.hid (radI_pos (u := k) (by omega) (by omega))
          have L := Lib.hid (fun w => radLit k (by omega) (by omega) w)
          have p : 0 < k := by omega
          clear s z
          generalize radI k = Y at *
          generalize radP k = z at *
          go_enter Try.func48, Try.ntmps48
          go_wp2_with fail
          refine (L.out _).mono ?_
          rintro e w1 ⟨rfl, hb1⟩
          have hs1 : _ ≤ w1.heap.size := hb1.size
          try simp at hs1
          have o_qr10 : Own (w1) (w.heap.size) 0 (.int .i64 0) := ownJ; obtain ⟨qr10, f_qr10⟩ := o_qr10; have o_qr11 : Own (w1) (w.heap.size) 1 (.int .i64 0) := ownJ; obtain ⟨qr11, f_qr11⟩ := o_qr11
          go_wp2
          exact bodyPost_ret (v := .agg #[.int .i64 (z).1, .int .i64 (z).2]) (by simp [results, Try.results48, go_sem, qr10, qr11]) rfl ⟨(by first | (rw [E.out]; done) | (rw [E.out]; rfl) | (simp [E.out]; done)), belB⟩
theorem RadiansOf_any (k : Int) (w : World) : Calls Try.prog 41 #[.int .i64 k] w fun e w' =>
    e = .returned (.agg #[.int .i64 (radI k).1, .int .i64 (radI k).2]) ∧ Below w.heap.size w w' := by
  go_enter Try.func41, Try.ntmps41
  go_wp2_with fail
  refine (multiple_R k _).mono ?_
  rintro e w1 ⟨rfl, hb1⟩
  have hs1 : _ ≤ w1.heap.size := hb1.size
  try simp at hs1
  have o_qr10 : Own (w1) (w.heap.size) 0 (.int .i64 0) := ownJ; obtain ⟨qr10, f_qr10⟩ := o_qr10; have o_qr11 : Own (w1) (w.heap.size) 1 (.int .i64 0) := ownJ; obtain ⟨qr11, f_qr11⟩ := o_qr11
  go_wp2
  exact bodyPost_ret (v := .agg #[.int .i64 (radI k).1, .int .i64 (radI k).2]) (by simp [results, Try.results41, go_sem, qr10, qr11]) rfl ⟨rfl, belB⟩
theorem PiI_any (w : World) : Calls Try.prog 32 #[] w fun e w' =>
    e = .returned (.agg #[.int .i64 (turI 2).1, .int .i64 (turI 2).2]) ∧ Below w.heap.size w w' := by
  go_enter Try.func32, Try.ntmps32
  go_wp2_with fail
  refine (TurnI_any 2 _).mono ?_
  rintro e w1 ⟨rfl, hb1⟩
  have hs1 : _ ≤ w1.heap.size := hb1.size
  try simp at hs1
  have o_qr10 : Own (w1) (w.heap.size) 0 (.int .i64 0) := ownJ; obtain ⟨qr10, f_qr10⟩ := o_qr10; have o_qr11 : Own (w1) (w.heap.size) 1 (.int .i64 0) := ownJ; obtain ⟨qr11, f_qr11⟩ := o_qr11
  go_wp2
  exact bodyPost_ret (v := .agg #[.int .i64 (turI 2).1, .int .i64 (turI 2).2]) (by simp [results, Try.results32, go_sem, qr10, qr11]) rfl ⟨rfl, belB⟩
theorem l05Pos (k : Int) (h0 : 0 < k) (h1 : k ≤ 4096) (w : World) : Calls Try.prog 118 #[.int .i64 k] w fun e w' =>
    e = .returned (.agg #[.int .i64 (turP k).1, .int .i64 (turP k).2]) ∧ Below w.heap.size w w' := by
  have M := Lib.hid (fun w => sMulFloor_any k 7244019458077122842 30 (by unfold In64; omega) (by unfold In64; omega) (by unfold In64; omega) w)
  obtain ⟨l0, l1, l2⟩ := turP_in (by omega) h1
  have E := Lib.hid (show mfI k 7244019458077122842 30 = (turP k).1 from mf_turn (by omega) h1)
  have T := Lib.hid l1
  rw [l1] at l2
  generalize (turP k).1 = l at *
  clear l1
  generalize (turP k).2 = r at *
  go_enter Try.func118, Try.ntmps118
  go_wp2_with fail
  refine (M.out _).mono ?_
  rintro e w1 ⟨rfl, hb1⟩
  have hs1 : _ ≤ w1.heap.size := hb1.size
  try simp at hs1
  rw [E.out]
  have o_qr10 : Own (w1) (w.heap.size) 0 (.int .i64 0) := ownJ; obtain ⟨qr10, f_qr10⟩ := o_qr10; have o_qr11 : Own (w1) (w.heap.size) 1 (.int .i64 0) := ownJ; obtain ⟨qr11, f_qr11⟩ := o_qr11
  go_wp2
  exact bodyPost_ret (v := .agg #[.int .i64 l, .int .i64 (l + 1)]) (by simp [results, Try.results118, go_sem, qr10, qr11]) rfl ⟨by rw [T.out], belB⟩
theorem l05Turn_any (k : Int) (h0 : -4096 ≤ k) (h1 : k ≤ 4096) (w : World) : Calls Try.prog 118 #[.int .i64 k] w fun e w' =>
    e = .returned (.agg #[.int .i64 (turM k).1, .int .i64 (turM k).2]) ∧ Below w.heap.size w w' := by
  by_cases z : k = 0
  · subst z
    go_enter Try.func118, Try.ntmps118
    go_wp2
    exact bodyPost_ret (v := .agg #[.int .i64 0, .int .i64 0]) (by simp [results, Try.results118, go_sem, turM_zero]) rfl ⟨rfl, belB⟩
  · by_cases s : k < 0
    · have E := Lib.hid (show turM k = (-(turP (-k)).2, -(turP (-k)).1) from by unfold turM; rw [if_neg z, if_pos s])
      have L := Lib.hid (fun w => l05Pos (-k) (by omega) (by omega) w)
      obtain ⟨l0, l1, l2⟩ := turP_in (k := -k) (by omega) (by omega)
      have q0 : (turP (-k)).1 ≤ 30000000000000 := by omega
      have q1 : 0 ≤ (turP (-k)).2 := by omega
      clear l1
      generalize (turP (-k)).1 = l at *
      generalize (turP (-k)).2 = r at *
      have z0 : (k == 0) = false := by simpa using z
      go_enter Try.func118, Try.ntmps118
      go_wp2_with fail
      refine (L.out _).mono ?_
      rintro e w1 ⟨rfl, hb1⟩
      have hs1 : _ ≤ w1.heap.size := hb1.size
      try simp at hs1
      have o_qr10 : Own (w1) (w.heap.size) 0 (.int .i64 0) := ownJ; obtain ⟨qr10, f_qr10⟩ := o_qr10; have o_qr11 : Own (w1) (w.heap.size) 1 (.int .i64 0) := ownJ; obtain ⟨qr11, f_qr11⟩ := o_qr11
      have zz1 : w.heap.size < w1.heap.size := World.block_lt_of_cell? _ _ qr10; obtain ⟨zz1a, zz1b, zz1c, zz1d, zz1e, zz1f, zz1g, zz1h, zz1i⟩ := below_more zz1; have zn1 : ¬ w.heap.size = w1.heap.size := Nat.ne_of_lt zz1; have zm1 : ¬ w1.heap.size = w.heap.size := Nat.ne_of_gt zz1
      go_wp2
      exact bodyPost_ret (v := .agg #[.int .i64 (-r), .int .i64 (-l)]) (by simp [results, Try.results118, go_sem, qr10, qr11, zz1, zm1, zn1]) rfl ⟨(by first | (rw [E.out]; done) | (rw [E.out]; rfl) | (simp [E.out]; done)), belB⟩
    · have E := Lib.hid (turM_pos (k := k) (by omega))
      rw [E.out]
      exact l05Pos k (by omega) h1 w
theorem sPiI_any (w : World) : Calls Try.prog 74 #[] w fun e w' =>
    e = .returned (.agg #[.int .i64 (turI 2).1, .int .i64 (turI 2).2]) ∧ Below w.heap.size w w' := by
  go_enter Try.func74, Try.ntmps74
  go_wp2_with fail
  refine (l05Turn_any 2 (by omega) (by omega) _).mono ?_
  rintro e w1 ⟨rfl, hb1⟩
  have hs1 : _ ≤ w1.heap.size := hb1.size
  try simp at hs1
  have o_qr10 : Own (w1) (w.heap.size) 0 (.int .i64 0) := ownJ; obtain ⟨qr10, f_qr10⟩ := o_qr10; have o_qr11 : Own (w1) (w.heap.size) 1 (.int .i64 0) := ownJ; obtain ⟨qr11, f_qr11⟩ := o_qr11
  go_wp2
  exact bodyPost_ret (v := .agg #[.int .i64 (turM 2).1, .int .i64 (turM 2).2]) (by simp [results, Try.results74, go_sem, qr10, qr11]) rfl ⟨rfl, belB⟩
end Go.Proofs.Ytnnanbaldcjfiaa
