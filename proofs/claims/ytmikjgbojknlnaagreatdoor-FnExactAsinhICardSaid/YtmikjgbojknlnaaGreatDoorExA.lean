/- Contracts of multiples of the logarithm of 2, program and model. Conditions: numbers are int64. -/
import Derived.Test.YtmikjgbojknlnaaGreatDoorExN
import Derived.Test.YtmikjgbojknlnaaGreatDoorIvE
import Derived.Test.YtmikjgbojknlnaaGreatDoorIvF
import Derived.Test.YtmikjgbojknlnaaGreatDoorIvM
import Derived.Test.YtmikjgbojknlnaaGreatDoorIvLd
import Derived.Outline
namespace Go.Proofs.YtmikjgbojknlnaaGreatDoor
open Go.ChangeShapes Go.WideShapes Go.ChangeAt Go.RowKit
set_option linter.unusedVariables false
set_option maxRecDepth 100000
set_option linter.unusedSimpArgs false
set_option maxHeartbeats 1000000
theorem lnLit (k : Int) (h0 : 0 ≤ k) (h1 : k ≤ 64) (w : World) : Calls Tryz.prog 196 #[.int .i64 k] w fun e w' =>
    e = .returned (.agg #[.int .i64 (lnP k).1, .int .i64 (lnP k).2]) ∧ Below w.heap.size w w' := by
  have W := Lib.hid (fun w => WideMul_any k 1598288580650331957 (by unfold In64; omega) (by unfold In64; omega) w)
  have W' := Lib.hid (fun w => WideMul_any k 1598288580650331958 (by unfold In64; omega) (by unfold In64; omega) w)
  have D := fun w => fixOf_down (k * 1598288580650331957) 536870912 (by unfold InW; omega) (by unfold In64; omega) w
  have U := fun w => fixOf_up (k * 1598288580650331958) 536870912 (by unfold InW; omega) (by unfold In64; omega) w
  rw [(ln_down h0 h1).1, (ln_down h0 h1).2] at D
  rw [(ln_up h0 h1).1, (ln_up h0 h1).2] at U
  have I := fun w => interval_any (lnP k).1 (lnP k).2 true w
  rw [lnP_can h0 h1] at I
  have D' := Lib.hid D
  have U' := Lib.hid U
  have I' := Lib.hid I
  clear D U I h0 h1
  generalize (lnP k).1 = l at *
  generalize (lnP k).2 = r at *
  go_enter Tryz.func196, Tryz.ntmps196
  go_wp2_with fail
  refine (W.out _).mono ?_
  rintro e w1 ⟨rfl, hb1⟩
  have hs1 : _ ≤ w1.heap.size := hb1.size
  try simp at hs1
  go_wp2_with fail
  refine (D'.out _).mono ?_
  rintro e w2 ⟨rfl, hb2⟩
  have hs2 : _ ≤ w2.heap.size := hb2.size
  try simp at hs2
  have o_q20 : Own (w2) (w.heap.size) 0 (.int .i64 0) := ownJ; have q20 := o_q20.1; have f_q20 := o_q20.2; have o_q21 : Own (w2) (w.heap.size) 1 (.int .i64 0) := ownJ; have q21 := o_q21.1; have f_q21 := o_q21.2
  go_wp2_with fail
  refine (W'.out _).mono ?_
  rintro e w3 ⟨rfl, hb3⟩
  have hs3 : _ ≤ w3.heap.size := hb3.size
  try simp at hs3
  go_wp2_with fail
  refine (U'.out _).mono ?_
  rintro e w4 ⟨rfl, hb4⟩
  have hs4 : _ ≤ w4.heap.size := hb4.size
  try simp at hs4
  have o_q40 : Own (w4) (w.heap.size) 0 (.int .i64 0) := ownJ; have q40 := o_q40.1; have f_q40 := o_q40.2; have o_q41 : Own (w4) (w.heap.size) 1 (.int .i64 0) := ownJ; have q41 := o_q41.1; have f_q41 := o_q41.2
  go_wp2_with fail
  refine (I'.out _).mono ?_
  rintro e w5 ⟨rfl, hb5⟩
  have hs5 : _ ≤ w5.heap.size := hb5.size
  try simp at hs5
  have o_q50 : Own (w5) (w.heap.size) 0 (.int .i64 0) := ownJ; obtain ⟨q50, f_q50⟩ := o_q50; have o_q51 : Own (w5) (w.heap.size) 1 (.int .i64 0) := ownJ; obtain ⟨q51, f_q51⟩ := o_q51
  go_wp2
  exact bodyPost_ret (v := .agg #[.int .i64 l, .int .i64 r]) (by simp [results, Tryz.results196, go_sem, q50, q51]) rfl ⟨rfl, belB⟩
theorem multiple_L (k : Int) (w : World) : Calls Tryz.prog 138 #[.int .i64 k, .int .i64 64, .func (Fn.func 196) #[] #[]] w fun e w' =>
    e = .returned (.agg #[.int .i64 (ln2 k).1, .int .i64 (ln2 k).2]) ∧ Below w.heap.size w w' := by
  by_cases o : k < -64
  · have E := Lib.hid (show ln2 k = whl from ln2_out (.inl o))
    go_enter Tryz.func138, Tryz.ntmps138
    go_wp2_with fail
    refine (Whole_any _).mono ?_
    rintro e w1 ⟨rfl, hb1⟩
    have hs1 : _ ≤ w1.heap.size := hb1.size
    try simp at hs1
    have o_qr10 : Own (w1) (w.heap.size) 0 (.int .i64 0) := ownJ; obtain ⟨qr10, f_qr10⟩ := o_qr10; have o_qr11 : Own (w1) (w.heap.size) 1 (.int .i64 0) := ownJ; obtain ⟨qr11, f_qr11⟩ := o_qr11
    go_wp2
    exact bodyPost_ret (v := .agg #[.int .i64 (-1152921504606846976), .int .i64 1152921504606846976]) (by simp [results, Tryz.results138, go_sem, qr10, qr11]) rfl ⟨(by first | (rw [E.out]; done) | (rw [E.out]; rfl) | (simp [E.out]; done)), belB⟩
  · by_cases o : 64 < k
    · have E := Lib.hid (show ln2 k = whl from ln2_out (.inr o))
      go_enter Tryz.func138, Tryz.ntmps138
      go_wp2_with fail
      refine (Whole_any _).mono ?_
      rintro e w1 ⟨rfl, hb1⟩
      have hs1 : _ ≤ w1.heap.size := hb1.size
      try simp at hs1
      have o_qr10 : Own (w1) (w.heap.size) 0 (.int .i64 0) := ownJ; obtain ⟨qr10, f_qr10⟩ := o_qr10; have o_qr11 : Own (w1) (w.heap.size) 1 (.int .i64 0) := ownJ; obtain ⟨qr11, f_qr11⟩ := o_qr11
      go_wp2
      exact bodyPost_ret (v := .agg #[.int .i64 (-1152921504606846976), .int .i64 1152921504606846976]) (by simp [results, Tryz.results138, go_sem, qr10, qr11]) rfl ⟨(by first | (rw [E.out]; done) | (rw [E.out]; rfl) | (simp [E.out]; done)), belB⟩
    · have b0 : -64 ≤ k := by omega
      have b1 : k ≤ 64 := by omega
      by_cases s : k < 0
      · have E := Lib.hid (ln2_neg s b0)
        have L := Lib.hid (fun w => lnLit (-k) (by omega) (by omega) w)
        have G := Lib.hid (fun w => NegI_any (lnP (-k)) w)
        generalize lnP (-k) = y at *
        generalize ln2 k = Y at *
        go_enter Tryz.func138, Tryz.ntmps138
        go_wp2_with fail
        refine (L.out _).mono ?_
        rintro e w1 ⟨rfl, hb1⟩
        have hs1 : _ ≤ w1.heap.size := hb1.size
        try simp at hs1
        go_wp2_with fail
        refine (G.out _).mono ?_
        rintro e w2 ⟨rfl, hb2⟩
        have hs2 : _ ≤ w2.heap.size := hb2.size
        try simp at hs2
        have o_qr20 : Own (w2) (w.heap.size) 0 (.int .i64 0) := ownJ; obtain ⟨qr20, f_qr20⟩ := o_qr20; have o_qr21 : Own (w2) (w.heap.size) 1 (.int .i64 0) := ownJ; obtain ⟨qr21, f_qr21⟩ := o_qr21
        go_wp2
        exact bodyPost_ret (v := .agg #[.int .i64 (negI y).1, .int .i64 (negI y).2]) (by simp [results, Tryz.results138, go_sem, qr20, qr21]) rfl ⟨(by first | (rw [E.out]; done) | (rw [E.out]; rfl) | (simp [E.out]; done)), belB⟩
      · by_cases z : k = 0
        · subst z
          have E := Lib.hid ln2_zero
          have G := Lib.hid (fun w => Integer_any 0 (by unfold In64; omega) w)
          generalize ln2 0 = Y at *
          clear o s b0 b1
          go_enter Tryz.func138, Tryz.ntmps138
          go_wp2_with fail
          refine (G.out _).mono ?_
          rintro e w1 ⟨rfl, hb1⟩
          have hs1 : _ ≤ w1.heap.size := hb1.size
          try simp at hs1
          have o_qr10 : Own (w1) (w.heap.size) 0 (.int .i64 0) := ownJ; obtain ⟨qr10, f_qr10⟩ := o_qr10; have o_qr11 : Own (w1) (w.heap.size) 1 (.int .i64 0) := ownJ; obtain ⟨qr11, f_qr11⟩ := o_qr11
          go_wp2
          exact bodyPost_ret (v := .agg #[.int .i64 (intI 0).1, .int .i64 (intI 0).2]) (by simp [results, Tryz.results138, go_sem, qr10, qr11]) rfl ⟨(by first | (rw [E.out]; done) | (rw [E.out]; rfl) | (simp [E.out]; done)), belB⟩
        · have E := Lib.hid (ln2_pos (k := k) (by omega) b1)
          have L := Lib.hid (fun w => lnLit k (by omega) (by omega) w)
          have p : 0 < k := by omega
          clear s z
          generalize ln2 k = Y at *
          generalize lnP k = z at *
          go_enter Tryz.func138, Tryz.ntmps138
          go_wp2_with fail
          refine (L.out _).mono ?_
          rintro e w1 ⟨rfl, hb1⟩
          have hs1 : _ ≤ w1.heap.size := hb1.size
          try simp at hs1
          have o_qr10 : Own (w1) (w.heap.size) 0 (.int .i64 0) := ownJ; obtain ⟨qr10, f_qr10⟩ := o_qr10; have o_qr11 : Own (w1) (w.heap.size) 1 (.int .i64 0) := ownJ; obtain ⟨qr11, f_qr11⟩ := o_qr11
          go_wp2
          exact bodyPost_ret (v := .agg #[.int .i64 (z).1, .int .i64 (z).2]) (by simp [results, Tryz.results138, go_sem, qr10, qr11]) rfl ⟨(by first | (rw [E.out]; done) | (rw [E.out]; rfl) | (simp [E.out]; done)), belB⟩
theorem LogTwoI_any (k : Int) (w : World) : Calls Tryz.prog 156 #[.int .i64 k] w fun e w' =>
    e = .returned (.agg #[.int .i64 (ln2 k).1, .int .i64 (ln2 k).2]) ∧ Below w.heap.size w w' := by
  go_enter Tryz.func156, Tryz.ntmps156
  go_wp2_with fail
  refine (multiple_L k _).mono ?_
  rintro e w1 ⟨rfl, hb1⟩
  have hs1 : _ ≤ w1.heap.size := hb1.size
  try simp at hs1
  have o_qr10 : Own (w1) (w.heap.size) 0 (.int .i64 0) := ownJ; obtain ⟨qr10, f_qr10⟩ := o_qr10; have o_qr11 : Own (w1) (w.heap.size) 1 (.int .i64 0) := ownJ; obtain ⟨qr11, f_qr11⟩ := o_qr11
  go_wp2
  exact bodyPost_ret (v := .agg #[.int .i64 (ln2 k).1, .int .i64 (ln2 k).2]) (by simp [results, Tryz.results156, go_sem, qr10, qr11]) rfl ⟨rfl, belB⟩
theorem sLnPos (k : Int) (h0 : 0 ≤ k) (h1 : k ≤ 64) (w : World) : Calls Tryz.prog 152 #[.int .i64 k] w fun e w' =>
    e = .returned (.agg #[.int .i64 (lnP k).1, .int .i64 (lnP k).2]) ∧ Below w.heap.size w w' := by
  have M := fun w => sMulFloor_any k 1598288580650331957 29 (by unfold In64; omega) (by unfold In64; omega) (by unfold In64; omega) w
  have M' := fun w => sMulFloor_any (-k) 1598288580650331958 29 (by unfold In64; omega) (by unfold In64; omega) (by unfold In64; omega) w
  rw [mf_ln h0 h1] at M
  rw [mf_lnU h0 h1] at M'
  have I := fun w => l04Make_any (lnP k).1 (lnP k).2 w
  rw [show can ((lnP k).1, (lnP k).2) = lnP k from can_yes (lnP_bnd h0 h1)] at I
  have A := Lib.hid M
  have B := Lib.hid M'
  have I' := Lib.hid I
  obtain ⟨b0, b1, b2⟩ := lnP_in h0 h1
  clear M M' I
  generalize (lnP k).1 = l at *
  generalize (lnP k).2 = r at *
  go_enter Tryz.func152, Tryz.ntmps152
  go_wp2_with fail
  refine (l00In_yes k (-64) 64 (by omega) h1 _).mono ?_
  rintro e w0 ⟨rfl, rfl⟩
  go_wp2_with fail
  refine (A.out _).mono ?_
  rintro e w1 ⟨rfl, hb1⟩
  have hs1 : _ ≤ w1.heap.size := hb1.size
  try simp at hs1
  have o_q10 : Own (w1) (w.heap.size) 0 (.int .i64 0) := ownJ; have q10 := o_q10.1; have f_q10 := o_q10.2; have o_q11 : Own (w1) (w.heap.size) 1 (.int .i64 0) := ownJ; have q11 := o_q11.1; have f_q11 := o_q11.2
  go_wp2_with fail
  refine (B.out _).mono ?_
  rintro e w2 ⟨rfl, hb2⟩
  have hs2 : _ ≤ w2.heap.size := hb2.size
  try simp at hs2
  have o_q20 : Own (w2) (w.heap.size) 0 (.int .i64 0) := ownJ; have q20 := o_q20.1; have f_q20 := o_q20.2; have o_q21 : Own (w2) (w.heap.size) 1 (.int .i64 0) := ownJ; have q21 := o_q21.1; have f_q21 := o_q21.2
  go_wp2_with fail
  refine (I'.out _).mono ?_
  rintro e w3 ⟨rfl, hb3⟩
  have hs3 : _ ≤ w3.heap.size := hb3.size
  try simp at hs3
  have o_q30 : Own (w3) (w.heap.size) 0 (.int .i64 0) := ownJ; obtain ⟨q30, f_q30⟩ := o_q30; have o_q31 : Own (w3) (w.heap.size) 1 (.int .i64 0) := ownJ; obtain ⟨q31, f_q31⟩ := o_q31
  go_wp2
  exact bodyPost_ret (v := .agg #[.int .i64 l, .int .i64 r]) (by simp [results, Tryz.results152, go_sem, q30, q31]) rfl ⟨rfl, belB⟩
theorem sLogTwoI_any (k : Int) (w : World) : Calls Tryz.prog 152 #[.int .i64 k] w fun e w' =>
    e = .returned (.agg #[.int .i64 (ln2 k).1, .int .i64 (ln2 k).2]) ∧ Below w.heap.size w w' := by
  by_cases o : k < -64 ∨ 64 < k
  · have E := Lib.hid (ln2_out o)
    go_enter Tryz.func152, Tryz.ntmps152
    go_wp2_with fail
    refine (l00In_no k (-64) 64 o _).mono ?_
    rintro e w0 ⟨rfl, rfl⟩
    go_wp2_with fail
    refine (l04Whole_any _).mono ?_
    rintro e w1 ⟨rfl, hb1⟩
    have hs1 : _ ≤ w1.heap.size := hb1.size
    try simp at hs1
    have o_qr10 : Own (w1) (w.heap.size) 0 (.int .i64 0) := ownJ; obtain ⟨qr10, f_qr10⟩ := o_qr10; have o_qr11 : Own (w1) (w.heap.size) 1 (.int .i64 0) := ownJ; obtain ⟨qr11, f_qr11⟩ := o_qr11
    go_wp2
    exact bodyPost_ret (v := .agg #[.int .i64 (-1152921504606846976), .int .i64 1152921504606846976]) (by simp [results, Tryz.results152, go_sem, qr10, qr11]) rfl ⟨(by first | (rw [E.out]; done) | (rw [E.out]; rfl) | (simp [E.out]; done)), belB⟩
  · by_cases s : k < 0
    · have E := Lib.hid (ln2_neg s (by omega))
      have L := Lib.hid (fun w => sLnPos (-k) (by omega) (by omega) w)
      have G := Lib.hid (fun w => sNegI_any (lnP (-k)) w)
      generalize lnP (-k) = y at *
      generalize ln2 k = Y at *
      go_enter Tryz.func152, Tryz.ntmps152
      go_wp2_with fail
      refine (l00In_yes k (-64) 64 (by omega) (by omega) _).mono ?_
      rintro e w0 ⟨rfl, rfl⟩
      go_wp2_with fail
      refine (L.out _).mono ?_
      rintro e w1 ⟨rfl, hb1⟩
      have hs1 : _ ≤ w1.heap.size := hb1.size
      try simp at hs1
      go_wp2_with fail
      refine (G.out _).mono ?_
      rintro e w2 ⟨rfl, hb2⟩
      have hs2 : _ ≤ w2.heap.size := hb2.size
      try simp at hs2
      have o_qr20 : Own (w2) (w.heap.size) 0 (.int .i64 0) := ownJ; obtain ⟨qr20, f_qr20⟩ := o_qr20; have o_qr21 : Own (w2) (w.heap.size) 1 (.int .i64 0) := ownJ; obtain ⟨qr21, f_qr21⟩ := o_qr21
      go_wp2
      exact bodyPost_ret (v := .agg #[.int .i64 (negI y).1, .int .i64 (negI y).2]) (by simp [results, Tryz.results152, go_sem, qr20, qr21]) rfl ⟨(by first | (rw [E.out]; done) | (rw [E.out]; rfl) | (simp [E.out]; done)), belB⟩
    · rw [ln2_pos (k := k) (by omega) (by omega)]
      exact sLnPos k (by omega) (by omega) w
end Go.Proofs.YtmikjgbojknlnaaGreatDoor
