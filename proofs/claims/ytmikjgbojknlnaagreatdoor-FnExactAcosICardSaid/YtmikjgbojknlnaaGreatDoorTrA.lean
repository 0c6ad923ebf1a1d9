/- Contracts of multiples of pi, program and model. Conditions: numbers are int64. -/
import Derived.Test.YtmikjgbojknlnaaGreatDoorNumP
import Derived.Test.YtmikjgbojknlnaaGreatDoorIvE
import Derived.Test.YtmikjgbojknlnaaGreatDoorIvF
import Derived.Test.YtmikjgbojknlnaaGreatDoorIvM
import Derived.Test.YtmikjgbojknlnaaGreatDoorIvLd
import Derived.Outline
namespace Go.Proofs.YtmikjgbojknlnaaGreatDoor
open Go.ChangeShapes Go.WideShapes Go.ChangeAt Go.RowKit
set_option linter.unusedVariables false
set_option maxRecDepth 100000
set_option linter.unusedSimpArgs false
set_option maxHeartbeats 1000000
theorem turnLit (k : Int) (h0 : 0 ≤ k) (h1 : k ≤ 4096) (w : World) : Calls Tryz.prog 139 #[.int .i64 k] w fun e w' =>
    e = .returned (.agg #[.int .i64 (turP k).1, .int .i64 (turP k).2]) ∧ Below w.heap.size w w' := by
  have M := Lib.hid (fun w => MulFloor_any k 7244019458077122842 30 (by unfold In64; omega) (by unfold In64; omega) (by unfold In64; omega) w)
  obtain ⟨l0, l1, l2⟩ := turP_in h0 h1
  have E := Lib.hid (show mfI k 7244019458077122842 30 = (turP k).1 from mf_turn h0 h1)
  have T := Lib.hid l1
  rw [l1] at l2
  generalize (turP k).1 = l at *
  clear l1
  generalize (turP k).2 = r at *
  clear h0 h1
  go_enter Tryz.func139, Tryz.ntmps139
  go_wp2_with fail
  refine (M.out _).mono ?_
  rintro e w1 ⟨rfl, hb1⟩
  have hs1 : _ ≤ w1.heap.size := hb1.size
  try simp at hs1
  rw [E.out]
  have o_qr10 : Own (w1) (w.heap.size) 0 (.int .i64 0) := ownJ; obtain ⟨qr10, f_qr10⟩ := o_qr10; have o_qr11 : Own (w1) (w.heap.size) 1 (.int .i64 0) := ownJ; obtain ⟨qr11, f_qr11⟩ := o_qr11
  go_wp2
  exact bodyPost_ret (v := .agg #[.int .i64 l, .int .i64 (l + 1)]) (by simp [results, Tryz.results139, go_sem, qr10, qr11]) rfl ⟨by rw [T.out], belB⟩
theorem multiple_T (k : Int) (w : World) : Calls Tryz.prog 138 #[.int .i64 k, .int .i64 4096, .func (Fn.func 139) #[] #[]] w fun e w' =>
    e = .returned (.agg #[.int .i64 (turI k).1, .int .i64 (turI k).2]) ∧ Below w.heap.size w w' := by
  by_cases o : k < -4096
  · have E := Lib.hid (show turI k = whl from (turI_out (.inl o)))
    go_enter Tryz.func138, Tryz.ntmps138
    go_wp2_with fail
    refine (Whole_any _).mono ?_
    rintro e w1 ⟨rfl, hb1⟩
    have hs1 : _ ≤ w1.heap.size := hb1.size
    try simp at hs1
    have o_qr10 : Own (w1) (w.heap.size) 0 (.int .i64 0) := ownJ; obtain ⟨qr10, f_qr10⟩ := o_qr10; have o_qr11 : Own (w1) (w.heap.size) 1 (.int .i64 0) := ownJ; obtain ⟨qr11, f_qr11⟩ := o_qr11
    go_wp2
    exact bodyPost_ret (v := .agg #[.int .i64 (-1152921504606846976), .int .i64 1152921504606846976]) (by simp [results, Tryz.results138, go_sem, qr10, qr11]) rfl ⟨(by first | (rw [E.out]; done) | (rw [E.out]; rfl) | (simp [E.out]; done)), belB⟩
  · by_cases o : 4096 < k
    · have E := Lib.hid (show turI k = whl from (turI_out (.inr o)))
      go_enter Tryz.func138, Tryz.ntmps138
      go_wp2_with fail
      refine (Whole_any _).mono ?_
      rintro e w1 ⟨rfl, hb1⟩
      have hs1 : _ ≤ w1.heap.size := hb1.size
      try simp at hs1
      have o_qr10 : Own (w1) (w.heap.size) 0 (.int .i64 0) := ownJ; obtain ⟨qr10, f_qr10⟩ := o_qr10; have o_qr11 : Own (w1) (w.heap.size) 1 (.int .i64 0) := ownJ; obtain ⟨qr11, f_qr11⟩ := o_qr11
      go_wp2
      exact bodyPost_ret (v := .agg #[.int .i64 (-1152921504606846976), .int .i64 1152921504606846976]) (by simp [results, Tryz.results138, go_sem, qr10, qr11]) rfl ⟨(by first | (rw [E.out]; done) | (rw [E.out]; rfl) | (simp [E.out]; done)), belB⟩
    · have b0 : -4096 ≤ k := by omega
      have b1 : k ≤ 4096 := by omega
      by_cases s : k < 0
      · have E := Lib.hid (show turI k = negI (turP (-k)) by rw [turI_in (by omega) (by omega), turM_neg s (by omega)])
        have L := Lib.hid (fun w => turnLit (-k) (by omega) (by omega) w)
        have G := Lib.hid (fun w => NegI_any (turP (-k)) w)
        generalize turP (-k) = y at *
        generalize turI k = Y at *
        go_enter Tryz.func138, Tryz.ntmps138
        go_wp2_with fail
        refine (L.out _).mono ?_
        rintro e w1 ⟨rfl, hb1⟩
        have hs1 : _ ≤ w1.heap.size := hb1.size
        try simp at hs1
        go_wp2_with fail
        refine (G.out _).mono ?_
        rintro e w2 ⟨rfl, hb2⟩
        have hs2 : _ ≤ w2.heap.size := hb2.size
        try simp at hs2
        have o_qr20 : Own (w2) (w.heap.size) 0 (.int .i64 0) := ownJ; obtain ⟨qr20, f_qr20⟩ := o_qr20; have o_qr21 : Own (w2) (w.heap.size) 1 (.int .i64 0) := ownJ; obtain ⟨qr21, f_qr21⟩ := o_qr21
        go_wp2
        exact bodyPost_ret (v := .agg #[.int .i64 (negI y).1, .int .i64 (negI y).2]) (by simp [results, Tryz.results138, go_sem, qr20, qr21]) rfl ⟨(by first | (rw [E.out]; done) | (rw [E.out]; rfl) | (simp [E.out]; done)), belB⟩
      · by_cases z : k = 0
        · subst z
          have E := Lib.hid (show turI 0 = intI 0 by rw [int_zero]; rfl)
          have G := Lib.hid (fun w => Integer_any 0 (by unfold In64; omega) w)
          generalize turI 0 = Y at *
          clear o s b0 b1
          go_enter Tryz.func138, Tryz.ntmps138
          go_wp2_with fail
          refine (G.out _).mono ?_
          rintro e w1 ⟨rfl, hb1⟩
          have hs1 : _ ≤ w1.heap.size := hb1.size
          try simp at hs1
          have o_qr10 : Own (w1) (w.heap.size) 0 (.int .i64 0) := ownJ; obtain ⟨qr10, f_qr10⟩ := o_qr10; have o_qr11 : Own (w1) (w.heap.size) 1 (.int .i64 0) := ownJ; obtain ⟨qr11, f_qr11⟩ := o_qr11
          go_wp2
          exact bodyPost_ret (v := .agg #[.int .i64 (intI 0).1, .int .i64 (intI 0).2]) (by simp [results, Tryz.results138, go_sem, qr10, qr11]) rfl ⟨(by first | (rw [E.out]; done) | (rw [E.out]; rfl) | (simp [E.out]; done)), belB⟩
        · have E := Lib.hid (show turI k = turP k by rw [turI_in (by omega) (by omega), turM_pos (by omega)])
          have L := Lib.hid (fun w => turnLit k (by omega) (by omega) w)
          have p : 0 < k := by omega
          clear s z
          generalize turI k = Y at *
          generalize turP k = z at *
          go_enter Tryz.func138, Tryz.ntmps138
          go_wp2_with fail
          refine (L.out _).mono ?_
          rintro e w1 ⟨rfl, hb1⟩
          have hs1 : _ ≤ w1.heap.size := hb1.size
          try simp at hs1
          have o_qr10 : Own (w1) (w.heap.size) 0 (.int .i64 0) := ownJ; obtain ⟨qr10, f_qr10⟩ := o_qr10; have o_qr11 : Own (w1) (w.heap.size) 1 (.int .i64 0) := ownJ; obtain ⟨qr11, f_qr11⟩ := o_qr11
          go_wp2
          exact bodyPost_ret (v := .agg #[.int .i64 (z).1, .int .i64 (z).2]) (by simp [results, Tryz.results138, go_sem, qr10, qr11]) rfl ⟨(by first | (rw [E.out]; done) | (rw [E.out]; rfl) | (simp [E.out]; done)), belB⟩
theorem TurnI_any (k : Int) (w : World) : Calls Tryz.prog 85 #[.int .i64 k] w fun e w' =>
    e = .returned (.agg #[.int .i64 (turI k).1, .int .i64 (turI k).2]) ∧ Below w.heap.size w w' := by
  go_enter Tryz.func85, Tryz.ntmps85
  go_wp2_with fail
  refine (multiple_T k _).mono ?_
  rintro e w1 ⟨rfl, hb1⟩
  have hs1 : _ ≤ w1.heap.size := hb1.size
  try simp at hs1
  have o_qr10 : Own (w1) (w.heap.size) 0 (.int .i64 0) := ownJ; obtain ⟨qr10, f_qr10⟩ := o_qr10; have o_qr11 : Own (w1) (w.heap.size) 1 (.int .i64 0) := ownJ; obtain ⟨qr11, f_qr11⟩ := o_qr11
  go_wp2
  exact bodyPost_ret (v := .agg #[.int .i64 (turI k).1, .int .i64 (turI k).2]) (by simp [results, Tryz.results85, go_sem, qr10, qr11]) rfl ⟨rfl, belB⟩
theorem l05Pos (k : Int) (h0 : 0 < k) (h1 : k ≤ 4096) (w : World) : Calls Tryz.prog 133 #[.int .i64 k] w fun e w' =>
    e = .returned (.agg #[.int .i64 (turP k).1, .int .i64 (turP k).2]) ∧ Below w.heap.size w w' := by
  have M := Lib.hid (fun w => sMulFloor_any k 7244019458077122842 30 (by unfold In64; omega) (by unfold In64; omega) (by unfold In64; omega) w)
  obtain ⟨l0, l1, l2⟩ := turP_in (by omega) h1
  have E := Lib.hid (show mfI k 7244019458077122842 30 = (turP k).1 from mf_turn (by omega) h1)
  have T := Lib.hid l1
  rw [l1] at l2
  generalize (turP k).1 = l at *
  clear l1
  generalize (turP k).2 = r at *
  go_enter Tryz.func133, Tryz.ntmps133
  go_wp2_with fail
  refine (M.out _).mono ?_
  rintro e w1 ⟨rfl, hb1⟩
  have hs1 : _ ≤ w1.heap.size := hb1.size
  try simp at hs1
  rw [E.out]
  have o_qr10 : Own (w1) (w.heap.size) 0 (.int .i64 0) := ownJ; obtain ⟨qr10, f_qr10⟩ := o_qr10; have o_qr11 : Own (w1) (w.heap.size) 1 (.int .i64 0) := ownJ; obtain ⟨qr11, f_qr11⟩ := o_qr11
  go_wp2
  exact bodyPost_ret (v := .agg #[.int .i64 l, .int .i64 (l + 1)]) (by simp [results, Tryz.results133, go_sem, qr10, qr11]) rfl ⟨by rw [T.out], belB⟩
theorem l05Turn_any (k : Int) (h0 : -4096 ≤ k) (h1 : k ≤ 4096) (w : World) : Calls Tryz.prog 133 #[.int .i64 k] w fun e w' =>
    e = .returned (.agg #[.int .i64 (turM k).1, .int .i64 (turM k).2]) ∧ Below w.heap.size w w' := by
  by_cases z : k = 0
  · subst z
    go_enter Tryz.func133, Tryz.ntmps133
    go_wp2
    exact bodyPost_ret (v := .agg #[.int .i64 0, .int .i64 0]) (by simp [results, Tryz.results133, go_sem, turM_zero]) rfl ⟨rfl, belB⟩
  · by_cases s : k < 0
    · have E := Lib.hid (show turM k = (-(turP (-k)).2, -(turP (-k)).1) from by unfold turM; rw [if_neg z, if_pos s])
      have L := Lib.hid (fun w => l05Pos (-k) (by omega) (by omega) w)
      obtain ⟨l0, l1, l2⟩ := turP_in (k := -k) (by omega) (by omega)
      have q0 : (turP (-k)).1 ≤ 30000000000000 := by omega
      have q1 : 0 ≤ (turP (-k)).2 := by omega
      clear l1
      generalize (turP (-k)).1 = l at *
      generalize (turP (-k)).2 = r at *
      have z0 : (k == 0) = false := by simpa using z
      go_enter Tryz.func133, Tryz.ntmps133
      go_wp2_with fail
      refine (L.out _).mono ?_
      rintro e w1 ⟨rfl, hb1⟩
      have hs1 : _ ≤ w1.heap.size := hb1.size
      try simp at hs1
      have o_qr10 : Own (w1) (w.heap.size) 0 (.int .i64 0) := ownJ; obtain ⟨qr10, f_qr10⟩ := o_qr10; have o_qr11 : Own (w1) (w.heap.size) 1 (.int .i64 0) := ownJ; obtain ⟨qr11, f_qr11⟩ := o_qr11
      have zz1 : w.heap.size < w1.heap.size := World.block_lt_of_cell? _ _ qr10; obtain ⟨zz1a, zz1b, zz1c, zz1d, zz1e, zz1f, zz1g, zz1h, zz1i⟩ := below_more zz1; have zn1 : ¬ w.heap.size = w1.heap.size := Nat.ne_of_lt zz1; have zm1 : ¬ w1.heap.size = w.heap.size := Nat.ne_of_gt zz1
      go_wp2
      exact bodyPost_ret (v := .agg #[.int .i64 (-r), .int .i64 (-l)]) (by simp [results, Tryz.results133, go_sem, qr10, qr11, zz1, zm1, zn1]) rfl ⟨(by first | (rw [E.out]; done) | (rw [E.out]; rfl) | (simp [E.out]; done)), belB⟩
    · have E := Lib.hid (turM_pos (k := k) (by omega))
      rw [E.out]
      exact l05Pos k (by omega) h1 w
theorem sTurnI_any (k : Int) (w : World) : Calls Tryz.prog 83 #[.int .i64 k] w fun e w' =>
    e = .returned (.agg #[.int .i64 (turI k).1, .int .i64 (turI k).2]) ∧ Below w.heap.size w w' := by
  by_cases o : k < -4096 ∨ 4096 < k
  · have E := Lib.hid (turI_out o)
    go_enter Tryz.func83, Tryz.ntmps83
    go_wp2_with fail
    refine (l00In_no k (-4096) 4096 o _).mono ?_
    rintro e w0 ⟨rfl, rfl⟩
    go_wp2_with fail
    refine (sWhole_any _).mono ?_
    rintro e w1 ⟨rfl, hb1⟩
    have hs1 : _ ≤ w1.heap.size := hb1.size
    try simp at hs1
    have o_qr10 : Own (w1) (w.heap.size) 0 (.int .i64 0) := ownJ; obtain ⟨qr10, f_qr10⟩ := o_qr10; have o_qr11 : Own (w1) (w.heap.size) 1 (.int .i64 0) := ownJ; obtain ⟨qr11, f_qr11⟩ := o_qr11
    go_wp2
    exact bodyPost_ret (v := .agg #[.int .i64 (-1152921504606846976), .int .i64 1152921504606846976]) (by simp [results, Tryz.results83, go_sem, qr10, qr11]) rfl ⟨(by first | (rw [E.out]; done) | (rw [E.out]; rfl) | (simp [E.out]; done)), belB⟩
  · have b0 : -4096 ≤ k := by omega
    have b1 : k ≤ 4096 := by omega
    have E := Lib.hid (turI_in b0 b1)
    have L := Lib.hid (fun w => l05Turn_any k b0 b1 w)
    go_enter Tryz.func83, Tryz.ntmps83
    go_wp2_with fail
    refine (l00In_yes k (-4096) 4096 b0 b1 _).mono ?_
    rintro e w0 ⟨rfl, rfl⟩
    go_wp2_with fail
    refine (L.out _).mono ?_
    rintro e w1 ⟨rfl, hb1⟩
    have hs1 : _ ≤ w1.heap.size := hb1.size
    try simp at hs1
    have o_qr10 : Own (w1) (w.heap.size) 0 (.int .i64 0) := ownJ; obtain ⟨qr10, f_qr10⟩ := o_qr10; have o_qr11 : Own (w1) (w.heap.size) 1 (.int .i64 0) := ownJ; obtain ⟨qr11, f_qr11⟩ := o_qr11
    go_wp2
    exact bodyPost_ret (v := .agg #[.int .i64 (turM k).1, .int .i64 (turM k).2]) (by simp [results, Tryz.results83, go_sem, qr10, qr11]) rfl ⟨(by first | (rw [E.out]; done) | (rw [E.out]; rfl) | (simp [E.out]; done)), belB⟩
end Go.Proofs.YtmikjgbojknlnaaGreatDoor
