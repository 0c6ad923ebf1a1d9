/- Contracts of the sines of an interval in the model. Conditions: numbers are int64. A contract of the tangents of an interval in the model. Conditions: numbers are int64. -/
import Derived.Test.YtnhpacaidcjaoaaGreatDoorSeY
import Derived.Test.YtnhpacaidcjaoaaGreatDoorTrD
import Derived.Test.YtnhpacaidcjaoaaGreatDoorIvM
import Derived.Test.YtnhpacaidcjaoaaGreatDoorIvZo
import Derived.Test.YtnhpacaidcjaoaaGreatDoorIvU
import Derived.Test.YtnhpacaidcjaoaaGreatDoorIvLd
import Derived.LoopN
import Derived.Handy
import Derived.Deep.RegionHeld3
import Derived.Deep.DeepCutAuto
import Derived.Outline
import Derived.Test.YtnhpacaidcjaoaaGreatDoorIvV
import Derived.Test.YtnhpacaidcjaoaaGreatDoorIvX
namespace Go.Proofs.YtnhpacaidcjaoaaGreatDoor
open Go.ChangeShapes Go.WideShapes Go.ChangeAt Go.RowKit
set_option linter.unusedVariables false
set_option maxRecDepth 100000
set_option linter.unusedSimpArgs false
set_option maxHeartbeats 1000000
set_option maxHeartbeats 8000000 in
theorem l06Over_any (x : Iv) (hx : Ok x) (q : Int) (q0 : 0 ≤ q) (q1 : q ≤ 1) (w : World) : Calls Tryz.prog 75 #[.agg #[.int .i64 x.1, .int .i64 x.2], .int .i64 q] w fun e w' =>
    e = .returned (.agg #[.int .i64 (sinV x q).1, .int .i64 (sinV x q).2]) ∧ Below w.heap.size w w' := by
  have CF := Lib.hid (fun w => l06Fits_any x w)
  cases hf : fitA x
  · rw [hf] at CF
    have E := Lib.hid (show sinV x q = rng from if_neg (by rw [hf]; simp))
    clear hf
    go_enter Tryz.func75, Tryz.ntmps75
    go_wp2_with fail
    refine (CF.out _).mono ?_
    rintro e w1 ⟨rfl, hb1⟩
    have hs1 : _ ≤ w1.heap.size := hb1.size
    try simp at hs1
    have o_r10 : Own (w1) (w.heap.size + 1) 0 (.int .i64 0) := ownJ; have r10 := o_r10.1; have f_r10 := o_r10.2; have o_r11 : Own (w1) (w.heap.size + 1) 1 (.int .i64 0) := ownJ; have r11 := o_r11.1; have f_r11 := o_r11.2
    go_wp2_with fail
    refine (l06Ring_any _).mono ?_
    rintro e w2 ⟨rfl, hb2⟩
    have hs2 : _ ≤ w2.heap.size := hb2.size
    try simp at hs2
    have o_r20 : Own (w2) (w.heap.size + 1) 0 (.int .i64 0) := ownJ; have r20 := o_r20.1; have f_r20 := o_r20.2; have o_r21 : Own (w2) (w.heap.size + 1) 1 (.int .i64 0) := ownJ; have r21 := o_r21.1; have f_r21 := o_r21.2
    go_wp2
    exact bodyPost_ret (v := .agg #[.int .i64 (-4294967296), .int .i64 4294967296]) (by simp [results, Tryz.results75, go_sem, r20, r21]) rfl ⟨(by first | (rw [E.out]; done) | (rw [E.out]; rfl) | (simp [E.out]; done)), belB⟩
  · rw [hf] at CF
    have A1 := Lib.hid (fun w => l06At_any x.1 q hx.1 q0 q1 w)
    have A2 := Lib.hid (fun w => l06At_any x.2 q hx.2 q0 q1 w)
    have H := Lib.hid (fun w => sHullI_any (sinA x.1 q) (sinA x.2 q) w)
    have Q1 := Lib.hid (fun w => sQuarterOf_any x.1 hx.1 w)
    have Q2 := Lib.hid (fun w => sQuarterOf_any x.2 hx.2 w)
    have hq1 := qrt_in x.1
    have hq2 := qrt_in x.2
    have EM := Lib.hid (sinV_model q hf)
    have hc := cnt_val hf
    have OVS : ∀ s k, ovS x q s k = if olpI (turI k) x = true then (if (k + q) % 4 = 1 then hulI s (intI 1) else if (k + q) % 4 = 3 then hulI s (intI (-1)) else s) else s := fun _ _ => rfl
    have OVR := Lib.hid (fun (s : Iv) (lo : Int) (j : Nat) => (show ovF x q s lo (j + 1) = ovS x q (ovF x q s lo j) (lo + j) from rfl))
    have OV0 := Lib.hid (fun (s : Iv) (lo : Int) => (show ovF x q s lo 0 = s from rfl))
    obtain ⟨n, hn⟩ : ∃ n, n = cnt x := ⟨_, rfl⟩
    rw [← hn] at hc EM
    clear hf hn
    generalize sinV x q = Y at *
    generalize hulI (sinA x.1 q) (sinA x.2 q) = s0 at *
    generalize sinA x.1 q = a1 at *
    generalize sinA x.2 q = a2 at *
    have WL : IntKind.i64.wrap (qrt x.1 - 1) = qrt x.1 - 1 := by rw [IntKind.wrap_i64]; omega
    have WH : IntKind.i64.wrap (qrt x.2 + 1) = qrt x.2 + 1 := by rw [IntKind.wrap_i64]; omega
    generalize qrt x.1 = lo at *
    generalize qrt x.2 = hi at *
    obtain ⟨lo0, lo1⟩ := hq1
    obtain ⟨hi0, hi1⟩ := hq2
    go_enter Tryz.func75, Tryz.ntmps75
    go_wp2_with fail
    refine (CF.out _).mono ?_
    rintro e w1 ⟨rfl, hb1⟩
    have hs1 : _ ≤ w1.heap.size := hb1.size
    try simp at hs1
    have o_x10 : Own (w1) (w.heap.size) 0 (.int .i64 x.1) := ownJ; have x10 := o_x10.1; have f_x10 := o_x10.2; have o_x11 : Own (w1) (w.heap.size) 1 (.int .i64 x.2) := ownJ; have x11 := o_x11.1; have f_x11 := o_x11.2
    have o_r10 : Own (w1) (w.heap.size + 1) 0 (.int .i64 0) := ownJ; have r10 := o_r10.1; have f_r10 := o_r10.2; have o_r11 : Own (w1) (w.heap.size + 1) 1 (.int .i64 0) := ownJ; have r11 := o_r11.1; have f_r11 := o_r11.2
    have zz1 : w.heap.size < w1.heap.size := World.block_lt_of_cell? _ _ x10; obtain ⟨zz1a, zz1b, zz1c, zz1d, zz1e, zz1f, zz1g, zz1h, zz1i⟩ := below_more zz1; have zn1 : ¬ w.heap.size = w1.heap.size := Nat.ne_of_lt zz1; have zm1 : ¬ w1.heap.size = w.heap.size := Nat.ne_of_gt zz1
    have zz2 : w.heap.size + 1 < w1.heap.size := World.block_lt_of_cell? _ _ r10; obtain ⟨zz2a, zz2b, zz2c, zz2d, zz2e, zz2f, zz2g, zz2h, zz2i⟩ := below_more zz2; have zn2 : ¬ w.heap.size + 1 = w1.heap.size := Nat.ne_of_lt zz2; have zm2 : ¬ w1.heap.size = w.heap.size + 1 := Nat.ne_of_gt zz2
    go_upto_region 3 with fail
    go_cut [5] (fun s5 wx => ∃ h : Nat, s5 = .pointer (some ⟨h, 0, none⟩) ∧ w.heap.size + 1 < h ∧ Own wx h 0 (.int .i64 s0.1) ∧ Own wx h 1 (.int .i64 s0.2) ∧ Own wx w.heap.size 0 (.int .i64 x.1) ∧ Own wx w.heap.size 1 (.int .i64 x.2) ∧ Own wx (w.heap.size + 1) 0 (.int .i64 0) ∧ Own wx (w.heap.size + 1) 1 (.int .i64 0) ∧ Below w.heap.size w wx)
    case first =>
      have cx0 := o_x10.1
      have cx1 := o_x11.1
      go_wp2_with fail
      refine AnyS.region (S := OneS 10 (fun u => u.cell? ⟨w.heap.size, 0, none⟩ = some (.int .i64 x.1) ∧ u.cell? ⟨w.heap.size, 1, none⟩ = some (.int .i64 x.2))) (by kernel_rfl) (show AnyS _ _ _ _ _ 11 _ _ _ from ?_)
      refine AnyS.take (i := 0) (v := .pointer (some ⟨w.heap.size, 0, none⟩)) (T := fun _ => True) [] rfl (by kernel_rfl) (by kernel_rfl) (by kernel_rfl) (by kernel_rfl) (by kernel_rfl) (fun _ _ _ h => h) (fun L u q s => trivial) (fun L u s => OneS.less (by decide) s) (Or.inl ⟨by rfl, ?_⟩) (fun _ => ⟨cx0, cx1⟩) ?_
      · intro u hu
        clear hu
        go_simp
      try simp only [Act.put, List.setIfInBounds_toArray, List.set_cons_zero, List.set_cons_succ]
      refine AnyS.take (i := 1) (v := .int .i64 x.1) (T := fun u => u.cell? ⟨w.heap.size, 0, none⟩ = some (.int .i64 x.1) ∧ u.cell? ⟨w.heap.size, 1, none⟩ = some (.int .i64 x.2)) [3, 8, 10] rfl (by kernel_rfl) (by kernel_rfl) (by kernel_rfl) (by kernel_rfl) (by kernel_rfl) (fun _ _ _ h => h) (fun L u q s => s (q 10 (by simp))) (fun L u s => OneS.less (by decide) s) (Or.inl ⟨by rfl, ?_⟩) (fun _ => ⟨cx0, cx1⟩) ?_
      · intro u hu
        obtain ⟨u0, u1⟩ := hu
        go_simp
      try simp only [Act.put, List.setIfInBounds_toArray, List.set_cons_zero, List.set_cons_succ]
      refine AnyS.take (i := 2) (v := .int .i64 q) (T := fun _ => True) [] rfl (by kernel_rfl) (by kernel_rfl) (by kernel_rfl) (by kernel_rfl) (by kernel_rfl) (fun _ _ _ h => h) (fun L u q s => trivial) (fun L u s => OneS.less (by decide) s) (Or.inl ⟨by rfl, ?_⟩) (fun _ => ⟨cx0, cx1⟩) ?_
      · intro u hu
        clear hu
        go_simp
      try simp only [Act.put, List.setIfInBounds_toArray, List.set_cons_zero, List.set_cons_succ]
      refine AnyS.take (i := 4) (v := .pointer (some ⟨w.heap.size, 1, none⟩)) (T := fun _ => True) [] rfl (by kernel_rfl) (by kernel_rfl) (by kernel_rfl) (by kernel_rfl) (by kernel_rfl) (fun _ _ _ h => h) (fun L u q s => trivial) (fun L u s => OneS.less (by decide) s) (Or.inl ⟨by rfl, ?_⟩) (fun _ => ⟨cx0, cx1⟩) ?_
      · intro u hu
        clear hu
        go_simp
      try simp only [Act.put, List.setIfInBounds_toArray, List.set_cons_zero, List.set_cons_succ]
      refine AnyS.take (i := 5) (v := .int .i64 x.2) (T := fun u => u.cell? ⟨w.heap.size, 0, none⟩ = some (.int .i64 x.1) ∧ u.cell? ⟨w.heap.size, 1, none⟩ = some (.int .i64 x.2)) [7, 8, 10] rfl (by kernel_rfl) (by kernel_rfl) (by kernel_rfl) (by kernel_rfl) (by kernel_rfl) (fun _ _ _ h => h) (fun L u q s => s (q 10 (by simp))) (fun L u s => OneS.less (by decide) s) (Or.inl ⟨by rfl, ?_⟩) (fun _ => ⟨cx0, cx1⟩) ?_
      · intro u hu
        obtain ⟨u0, u1⟩ := hu
        go_simp
      try simp only [Act.put, List.setIfInBounds_toArray, List.set_cons_zero, List.set_cons_succ]
      refine AnyS.take (i := 6) (v := .int .i64 q) (T := fun _ => True) [] rfl (by kernel_rfl) (by kernel_rfl) (by kernel_rfl) (by kernel_rfl) (by kernel_rfl) (fun _ _ _ h => h) (fun L u q s => trivial) (fun L u s => OneS.less (by decide) s) (Or.inl ⟨by rfl, ?_⟩) (fun _ => ⟨cx0, cx1⟩) ?_
      · intro u hu
        clear hu
        go_simp
      try simp only [Act.put, List.setIfInBounds_toArray, List.set_cons_zero, List.set_cons_succ]
      refine AnyS.two (i := 3) (j := 9) (by kernel_rfl) (AnyS.comes rfl (fun K hK => ?_)) (AnyS.comes rfl (fun K hK => ?_))
      · go_simp
        refine (A1.out _).mono ?_
        rintro e w41 ⟨rfl, hb41⟩
        have hs41 : _ ≤ w41.heap.size := hb41.size
        try simp at hs41
        have o_h0_41 : Own w41 w.heap.size 0 (.int .i64 x.1) := own_kept hb41 (own_drew o_x10)
        have o_h1_41 : Own w41 w.heap.size 1 (.int .i64 x.2) := own_kept hb41 (own_drew o_x11)
        have o_r0_41 : Own w41 (w.heap.size + 1) 0 (.int .i64 0) := own_kept hb41 (own_drew o_r10)
        have o_r1_41 : Own w41 (w.heap.size + 1) 1 (.int .i64 0) := own_kept hb41 (own_drew o_r11)
        go_wp2_with fail
        refine hK.out _ _ (fun _ => ⟨o_h0_41.1, o_h1_41.1⟩) ?_
        clear hK K
        try simp only [Act.put, List.setIfInBounds_toArray, List.set_cons_zero, List.set_cons_succ]
        refine AnyS.two (i := 7) (j := 9) (by kernel_rfl) (AnyS.comes rfl (fun K hK => ?_)) (AnyS.comes rfl (fun K hK => ?_))
        · go_simp
          refine (A2.out _).mono ?_
          rintro e w42 ⟨rfl, hb42⟩
          have hs42 : _ ≤ w42.heap.size := hb42.size
          try simp at hs42
          have o_h0_42 : Own w42 w.heap.size 0 (.int .i64 x.1) := own_kept hb42 o_h0_41
          have o_h1_42 : Own w42 w.heap.size 1 (.int .i64 x.2) := own_kept hb42 o_h1_41
          have o_r0_42 : Own w42 (w.heap.size + 1) 0 (.int .i64 0) := own_kept hb42 o_r0_41
          have o_r1_42 : Own w42 (w.heap.size + 1) 1 (.int .i64 0) := own_kept hb42 o_r1_41
          go_wp2_with fail
          refine hK.out _ _ (fun _ => ⟨o_h0_42.1, o_h1_42.1⟩) ?_
          clear hK K
          try simp only [Act.put, List.setIfInBounds_toArray, List.set_cons_zero, List.set_cons_succ]
          refine AnyS.two (i := 8) (j := 9) (by kernel_rfl) (AnyS.comes rfl (fun K hK => ?_)) (AnyS.comes rfl (fun K hK => ?_))
          · go_simp
            refine (H.out _).mono ?_
            rintro e w43 ⟨rfl, hb43⟩
            have hs43 : _ ≤ w43.heap.size := hb43.size
            try simp at hs43
            have o_h0_43 : Own w43 w.heap.size 0 (.int .i64 x.1) := own_kept hb43 o_h0_42
            have o_h1_43 : Own w43 w.heap.size 1 (.int .i64 x.2) := own_kept hb43 o_h1_42
            have o_r0_43 : Own w43 (w.heap.size + 1) 0 (.int .i64 0) := own_kept hb43 o_r0_42
            have o_r1_43 : Own w43 (w.heap.size + 1) 1 (.int .i64 0) := own_kept hb43 o_r1_42
            go_wp2_with fail
            refine hK.out _ _ (fun _ => ⟨o_h0_43.1, o_h1_43.1⟩) ?_
            clear hK K
            try simp only [Act.put, List.setIfInBounds_toArray, List.set_cons_zero, List.set_cons_succ]
            refine AnyS.one (i := 9) (by kernel_rfl) (AnyS.comes rfl (fun K hK => ?_))
            go_simp
            have o_h0_93 : Own ((w43.alloc (.cells #[.int .i64 0, .int .i64 0] 23))) w.heap.size 0 (.int .i64 x.1) := own_alloc o_h0_43
            have o_h1_93 : Own ((w43.alloc (.cells #[.int .i64 0, .int .i64 0] 23))) w.heap.size 1 (.int .i64 x.2) := own_alloc o_h1_43
            have o_r0_93 : Own ((w43.alloc (.cells #[.int .i64 0, .int .i64 0] 23))) (w.heap.size + 1) 0 (.int .i64 0) := own_alloc o_r0_43
            have o_r1_93 : Own ((w43.alloc (.cells #[.int .i64 0, .int .i64 0] 23))) (w.heap.size + 1) 1 (.int .i64 0) := own_alloc o_r1_43
            have o_n0_93 : Own ((w43.alloc (.cells #[.int .i64 0, .int .i64 0] 23))) w43.heap.size 0 (.int .i64 0) := ⟨by simp [go_sem], by simp [go_sem]⟩
            have o_n1_93 : Own ((w43.alloc (.cells #[.int .i64 0, .int .i64 0] 23))) w43.heap.size 1 (.int .i64 0) := ⟨by simp [go_sem], by simp [go_sem]⟩
            refine hK.out _ _ (fun _ => ⟨o_h0_93.1, o_h1_93.1⟩) ?_
            clear hK K
            try simp only [Act.put, List.setIfInBounds_toArray, List.set_cons_zero, List.set_cons_succ]
            obtain ⟨dn0, en0⟩ := id o_n0_93
            obtain ⟨dn1, en1⟩ := id o_n1_93
            refine AnyS.one (i := 10) (by kernel_rfl) (AnyS.comes rfl (fun K hK => ?_))
            go_simp
            refine hK.out _ _ (fun h => absurd h (by decide)) ?_
            clear hK K
            try simp only [Act.put, List.setIfInBounds_toArray, List.set_cons_zero, List.set_cons_succ]
            refine AnyS.done (by kernel_rfl) ?_ _
            have ls := World.block_lt_of_cell? _ _ o_r0_43.1
            go_wp2_with fail
            go_meet
            exact ⟨_, rfl, (by first | exact ls | omega), ⟨by simp [go_sem], by simp [go_sem]⟩, ⟨by simp [go_sem], by simp [go_sem]⟩, own_alloc o_h0_43, own_alloc o_h1_43, own_alloc o_r0_43, own_alloc o_r1_43, belB⟩
          · go_simp
            have o_h0_92 : Own ((w42.alloc (.cells #[.int .i64 0, .int .i64 0] 23))) w.heap.size 0 (.int .i64 x.1) := own_alloc o_h0_42
            have o_h1_92 : Own ((w42.alloc (.cells #[.int .i64 0, .int .i64 0] 23))) w.heap.size 1 (.int .i64 x.2) := own_alloc o_h1_42
            have o_r0_92 : Own ((w42.alloc (.cells #[.int .i64 0, .int .i64 0] 23))) (w.heap.size + 1) 0 (.int .i64 0) := own_alloc o_r0_42
            have o_r1_92 : Own ((w42.alloc (.cells #[.int .i64 0, .int .i64 0] 23))) (w.heap.size + 1) 1 (.int .i64 0) := own_alloc o_r1_42
            have o_n0_92 : Own ((w42.alloc (.cells #[.int .i64 0, .int .i64 0] 23))) w42.heap.size 0 (.int .i64 0) := ⟨by simp [go_sem], by simp [go_sem]⟩
            have o_n1_92 : Own ((w42.alloc (.cells #[.int .i64 0, .int .i64 0] 23))) w42.heap.size 1 (.int .i64 0) := ⟨by simp [go_sem], by simp [go_sem]⟩
            refine hK.out _ _ (fun _ => ⟨o_h0_92.1, o_h1_92.1⟩) ?_
            clear hK K
            try simp only [Act.put, List.setIfInBounds_toArray, List.set_cons_zero, List.set_cons_succ]
            refine AnyS.one (i := 8) (by kernel_rfl) (AnyS.comes rfl (fun K hK => ?_))
            go_simp
            refine (H.out _).mono ?_
            rintro e w93 ⟨rfl, hb93⟩
            have hs93 : _ ≤ w93.heap.size := hb93.size
            try simp at hs93
            have o_h0_93 : Own w93 w.heap.size 0 (.int .i64 x.1) := own_kept hb93 o_h0_92
            have o_h1_93 : Own w93 w.heap.size 1 (.int .i64 x.2) := own_kept hb93 o_h1_92
            have o_r0_93 : Own w93 (w.heap.size + 1) 0 (.int .i64 0) := own_kept hb93 o_r0_92
            have o_r1_93 : Own w93 (w.heap.size + 1) 1 (.int .i64 0) := own_kept hb93 o_r1_92
            have o_n0_93 : Own w93 w42.heap.size 0 (.int .i64 0) := own_kept hb93 o_n0_92
            have o_n1_93 : Own w93 w42.heap.size 1 (.int .i64 0) := own_kept hb93 o_n1_92
            go_wp2_with fail
            refine hK.out _ _ (fun _ => ⟨o_h0_93.1, o_h1_93.1⟩) ?_
            clear hK K
            try simp only [Act.put, List.setIfInBounds_toArray, List.set_cons_zero, List.set_cons_succ]
            obtain ⟨dn0, en0⟩ := id o_n0_93
            obtain ⟨dn1, en1⟩ := id o_n1_93
            refine AnyS.one (i := 10) (by kernel_rfl) (AnyS.comes rfl (fun K hK => ?_))
            go_simp
            refine hK.out _ _ (fun h => absurd h (by decide)) ?_
            clear hK K
            try simp only [Act.put, List.setIfInBounds_toArray, List.set_cons_zero, List.set_cons_succ]
            refine AnyS.done (by kernel_rfl) ?_ _
            have ls := World.block_lt_of_cell? _ _ o_r0_42.1
            go_wp2_with fail
            go_meet
            exact ⟨_, rfl, (by first | exact ls | omega), own_next (by decide) (own_put o_n0_93), own_put (own_next (by decide) o_n1_93), own_far (by first | (simp; done) | (simp; omega) | (dsimp only; omega)) (own_far (by first | (simp; done) | (simp; omega) | (dsimp only; omega)) o_h0_93), own_far (by first | (simp; done) | (simp; omega) | (dsimp only; omega)) (own_far (by first | (simp; done) | (simp; omega) | (dsimp only; omega)) o_h1_93), own_far (by first | (simp; done) | (simp; omega) | (dsimp only; omega)) (own_far (by first | (simp; done) | (simp; omega) | (dsimp only; omega)) o_r0_93), own_far (by first | (simp; done) | (simp; omega) | (dsimp only; omega)) (own_far (by first | (simp; done) | (simp; omega) | (dsimp only; omega)) o_r1_93), belB⟩
        · go_simp
          have o_h0_91 : Own ((w41.alloc (.cells #[.int .i64 0, .int .i64 0] 23))) w.heap.size 0 (.int .i64 x.1) := own_alloc o_h0_41
          have o_h1_91 : Own ((w41.alloc (.cells #[.int .i64 0, .int .i64 0] 23))) w.heap.size 1 (.int .i64 x.2) := own_alloc o_h1_41
          have o_r0_91 : Own ((w41.alloc (.cells #[.int .i64 0, .int .i64 0] 23))) (w.heap.size + 1) 0 (.int .i64 0) := own_alloc o_r0_41
          have o_r1_91 : Own ((w41.alloc (.cells #[.int .i64 0, .int .i64 0] 23))) (w.heap.size + 1) 1 (.int .i64 0) := own_alloc o_r1_41
          have o_n0_91 : Own ((w41.alloc (.cells #[.int .i64 0, .int .i64 0] 23))) w41.heap.size 0 (.int .i64 0) := ⟨by simp [go_sem], by simp [go_sem]⟩
          have o_n1_91 : Own ((w41.alloc (.cells #[.int .i64 0, .int .i64 0] 23))) w41.heap.size 1 (.int .i64 0) := ⟨by simp [go_sem], by simp [go_sem]⟩
          refine hK.out _ _ (fun _ => ⟨o_h0_91.1, o_h1_91.1⟩) ?_
          clear hK K
          try simp only [Act.put, List.setIfInBounds_toArray, List.set_cons_zero, List.set_cons_succ]
          refine AnyS.one (i := 7) (by kernel_rfl) (AnyS.comes rfl (fun K hK => ?_))
          go_simp
          refine (A2.out _).mono ?_
          rintro e w92 ⟨rfl, hb92⟩
          have hs92 : _ ≤ w92.heap.size := hb92.size
          try simp at hs92
          have o_h0_92 : Own w92 w.heap.size 0 (.int .i64 x.1) := own_kept hb92 o_h0_91
          have o_h1_92 : Own w92 w.heap.size 1 (.int .i64 x.2) := own_kept hb92 o_h1_91
          have o_r0_92 : Own w92 (w.heap.size + 1) 0 (.int .i64 0) := own_kept hb92 o_r0_91
          have o_r1_92 : Own w92 (w.heap.size + 1) 1 (.int .i64 0) := own_kept hb92 o_r1_91
          have o_n0_92 : Own w92 w41.heap.size 0 (.int .i64 0) := own_kept hb92 o_n0_91
          have o_n1_92 : Own w92 w41.heap.size 1 (.int .i64 0) := own_kept hb92 o_n1_91
          go_wp2_with fail
          refine hK.out _ _ (fun _ => ⟨o_h0_92.1, o_h1_92.1⟩) ?_
          clear hK K
          try simp only [Act.put, List.setIfInBounds_toArray, List.set_cons_zero, List.set_cons_succ]
          refine AnyS.one (i := 8) (by kernel_rfl) (AnyS.comes rfl (fun K hK => ?_))
          go_simp
          refine (H.out _).mono ?_
          rintro e w93 ⟨rfl, hb93⟩
          have hs93 : _ ≤ w93.heap.size := hb93.size
          try simp at hs93
          have o_h0_93 : Own w93 w.heap.size 0 (.int .i64 x.1) := own_kept hb93 o_h0_92
          have o_h1_93 : Own w93 w.heap.size 1 (.int .i64 x.2) := own_kept hb93 o_h1_92
          have o_r0_93 : Own w93 (w.heap.size + 1) 0 (.int .i64 0) := own_kept hb93 o_r0_92
          have o_r1_93 : Own w93 (w.heap.size + 1) 1 (.int .i64 0) := own_kept hb93 o_r1_92
          have o_n0_93 : Own w93 w41.heap.size 0 (.int .i64 0) := own_kept hb93 o_n0_92
          have o_n1_93 : Own w93 w41.heap.size 1 (.int .i64 0) := own_kept hb93 o_n1_92
          go_wp2_with fail
          refine hK.out _ _ (fun _ => ⟨o_h0_93.1, o_h1_93.1⟩) ?_
          clear hK K
          try simp only [Act.put, List.setIfInBounds_toArray, List.set_cons_zero, List.set_cons_succ]
          obtain ⟨dn0, en0⟩ := id o_n0_93
          obtain ⟨dn1, en1⟩ := id o_n1_93
          refine AnyS.one (i := 10) (by kernel_rfl) (AnyS.comes rfl (fun K hK => ?_))
          go_simp
          refine hK.out _ _ (fun h => absurd h (by decide)) ?_
          clear hK K
          try simp only [Act.put, List.setIfInBounds_toArray, List.set_cons_zero, List.set_cons_succ]
          refine AnyS.done (by kernel_rfl) ?_ _
          have ls := World.block_lt_of_cell? _ _ o_r0_41.1
          go_wp2_with fail
          go_meet
          exact ⟨_, rfl, (by first | exact ls | omega), own_next (by decide) (own_put o_n0_93), own_put (own_next (by decide) o_n1_93), own_far (by first | (simp; done) | (simp; omega) | (dsimp only; omega)) (own_far (by first | (simp; done) | (simp; omega) | (dsimp only; omega)) o_h0_93), own_far (by first | (simp; done) | (simp; omega) | (dsimp only; omega)) (own_far (by first | (simp; done) | (simp; omega) | (dsimp only; omega)) o_h1_93), own_far (by first | (simp; done) | (simp; omega) | (dsimp only; omega)) (own_far (by first | (simp; done) | (simp; omega) | (dsimp only; omega)) o_r0_93), own_far (by first | (simp; done) | (simp; omega) | (dsimp only; omega)) (own_far (by first | (simp; done) | (simp; omega) | (dsimp only; omega)) o_r1_93), belB⟩
      · go_simp
        have o_h0_90 : Own ((w1.alloc (.cells #[.int .i64 0, .int .i64 0] 23)).drew) w.heap.size 0 (.int .i64 x.1) := own_drew (own_alloc o_x10)
        have o_h1_90 : Own ((w1.alloc (.cells #[.int .i64 0, .int .i64 0] 23)).drew) w.heap.size 1 (.int .i64 x.2) := own_drew (own_alloc o_x11)
        have o_r0_90 : Own ((w1.alloc (.cells #[.int .i64 0, .int .i64 0] 23)).drew) (w.heap.size + 1) 0 (.int .i64 0) := own_drew (own_alloc o_r10)
        have o_r1_90 : Own ((w1.alloc (.cells #[.int .i64 0, .int .i64 0] 23)).drew) (w.heap.size + 1) 1 (.int .i64 0) := own_drew (own_alloc o_r11)
        have o_n0_90 : Own ((w1.alloc (.cells #[.int .i64 0, .int .i64 0] 23)).drew) w1.heap.size 0 (.int .i64 0) := ⟨by simp [go_sem], by simp [go_sem]⟩
        have o_n1_90 : Own ((w1.alloc (.cells #[.int .i64 0, .int .i64 0] 23)).drew) w1.heap.size 1 (.int .i64 0) := ⟨by simp [go_sem], by simp [go_sem]⟩
        refine hK.out _ _ (fun _ => ⟨o_h0_90.1, o_h1_90.1⟩) ?_
        clear hK K
        try simp only [Act.put, List.setIfInBounds_toArray, List.set_cons_zero, List.set_cons_succ]
        refine AnyS.one (i := 3) (by kernel_rfl) (AnyS.comes rfl (fun K hK => ?_))
        go_simp
        refine (A1.out _).mono ?_
        rintro e w91 ⟨rfl, hb91⟩
        have hs91 : _ ≤ w91.heap.size := hb91.size
        try simp at hs91
        have o_h0_91 : Own w91 w.heap.size 0 (.int .i64 x.1) := own_kept hb91 o_h0_90
        have o_h1_91 : Own w91 w.heap.size 1 (.int .i64 x.2) := own_kept hb91 o_h1_90
        have o_r0_91 : Own w91 (w.heap.size + 1) 0 (.int .i64 0) := own_kept hb91 o_r0_90
        have o_r1_91 : Own w91 (w.heap.size + 1) 1 (.int .i64 0) := own_kept hb91 o_r1_90
        have o_n0_91 : Own w91 w1.heap.size 0 (.int .i64 0) := own_kept hb91 o_n0_90
        have o_n1_91 : Own w91 w1.heap.size 1 (.int .i64 0) := own_kept hb91 o_n1_90
        go_wp2_with fail
        refine hK.out _ _ (fun _ => ⟨o_h0_91.1, o_h1_91.1⟩) ?_
        clear hK K
        try simp only [Act.put, List.setIfInBounds_toArray, List.set_cons_zero, List.set_cons_succ]
        refine AnyS.one (i := 7) (by kernel_rfl) (AnyS.comes rfl (fun K hK => ?_))
        go_simp
        refine (A2.out _).mono ?_
        rintro e w92 ⟨rfl, hb92⟩
        have hs92 : _ ≤ w92.heap.size := hb92.size
        try simp at hs92
        have o_h0_92 : Own w92 w.heap.size 0 (.int .i64 x.1) := own_kept hb92 o_h0_91
        have o_h1_92 : Own w92 w.heap.size 1 (.int .i64 x.2) := own_kept hb92 o_h1_91
        have o_r0_92 : Own w92 (w.heap.size + 1) 0 (.int .i64 0) := own_kept hb92 o_r0_91
        have o_r1_92 : Own w92 (w.heap.size + 1) 1 (.int .i64 0) := own_kept hb92 o_r1_91
        have o_n0_92 : Own w92 w1.heap.size 0 (.int .i64 0) := own_kept hb92 o_n0_91
        have o_n1_92 : Own w92 w1.heap.size 1 (.int .i64 0) := own_kept hb92 o_n1_91
        go_wp2_with fail
        refine hK.out _ _ (fun _ => ⟨o_h0_92.1, o_h1_92.1⟩) ?_
        clear hK K
        try simp only [Act.put, List.setIfInBounds_toArray, List.set_cons_zero, List.set_cons_succ]
        refine AnyS.one (i := 8) (by kernel_rfl) (AnyS.comes rfl (fun K hK => ?_))
        go_simp
        refine (H.out _).mono ?_
        rintro e w93 ⟨rfl, hb93⟩
        have hs93 : _ ≤ w93.heap.size := hb93.size
        try simp at hs93
        have o_h0_93 : Own w93 w.heap.size 0 (.int .i64 x.1) := own_kept hb93 o_h0_92
        have o_h1_93 : Own w93 w.heap.size 1 (.int .i64 x.2) := own_kept hb93 o_h1_92
        have o_r0_93 : Own w93 (w.heap.size + 1) 0 (.int .i64 0) := own_kept hb93 o_r0_92
        have o_r1_93 : Own w93 (w.heap.size + 1) 1 (.int .i64 0) := own_kept hb93 o_r1_92
        have o_n0_93 : Own w93 w1.heap.size 0 (.int .i64 0) := own_kept hb93 o_n0_92
        have o_n1_93 : Own w93 w1.heap.size 1 (.int .i64 0) := own_kept hb93 o_n1_92
        go_wp2_with fail
        refine hK.out _ _ (fun _ => ⟨o_h0_93.1, o_h1_93.1⟩) ?_
        clear hK K
        try simp only [Act.put, List.setIfInBounds_toArray, List.set_cons_zero, List.set_cons_succ]
        obtain ⟨dn0, en0⟩ := id o_n0_93
        obtain ⟨dn1, en1⟩ := id o_n1_93
        refine AnyS.one (i := 10) (by kernel_rfl) (AnyS.comes rfl (fun K hK => ?_))
        go_simp
        refine hK.out _ _ (fun h => absurd h (by decide)) ?_
        clear hK K
        try simp only [Act.put, List.setIfInBounds_toArray, List.set_cons_zero, List.set_cons_succ]
        refine AnyS.done (by kernel_rfl) ?_ _
        go_wp2_with fail
        go_meet
        exact ⟨_, rfl, (by omega), own_next (by decide) (own_put o_n0_93), own_put (own_next (by decide) o_n1_93), own_far (by first | (simp; done) | (simp; omega) | (dsimp only; omega)) (own_far (by first | (simp; done) | (simp; omega) | (dsimp only; omega)) o_h0_93), own_far (by first | (simp; done) | (simp; omega) | (dsimp only; omega)) (own_far (by first | (simp; done) | (simp; omega) | (dsimp only; omega)) o_h1_93), own_far (by first | (simp; done) | (simp; omega) | (dsimp only; omega)) (own_far (by first | (simp; done) | (simp; omega) | (dsimp only; omega)) o_r0_93), own_far (by first | (simp; done) | (simp; omega) | (dsimp only; omega)) (own_far (by first | (simp; done) | (simp; omega) | (dsimp only; omega)) o_r1_93), belB⟩
    case rest =>
      obtain ⟨h, rfl, lh, V0, V1, X0, X1, R0, R1, hb⟩ := hcut
      obtain ⟨cx0, fx0⟩ := id X0
      obtain ⟨cx1, fx1⟩ := id X1
      clear hb1 hs1 o_x10 o_x11 x10 f_x10 x11 f_x11 o_r10 o_r11 r10 f_r10 r11 f_r11 zz1 zz1a zz1b zz1c zz1d zz1e zz1f zz1g zz1h zz1i zz2 zz2a zz2b zz2c zz2d zz2e zz2f zz2g zz2h zz2i zn1 zm1 zn2 zm2
      have hbs := hb.size
      go_wp2_with fail
      refine (Q1.out _).mono ?_
      rintro e w3 ⟨rfl, hb3⟩
      have hs3 : _ ≤ w3.heap.size := hb3.size
      try simp at hs3
      go_wp2_with fail
      go_loopw [6] (fun k wr => ∃ j : Nat, j ≤ n + 2 ∧ k = .int .i64 (lo - 1 + (j : Int)) ∧ Own wr h 0 (.int .i64 (ovF x q s0 (lo - 1) j).1) ∧ Own wr h 1 (.int .i64 (ovF x q s0 (lo - 1) j).2) ∧ Own wr w.heap.size 0 (.int .i64 x.1) ∧ Own wr w.heap.size 1 (.int .i64 x.2) ∧ Own wr (w.heap.size + 1) 0 (.int .i64 0) ∧ Own wr (w.heap.size + 1) 1 (.int .i64 0) ∧ Below w.heap.size w wr) (fun k _ => (hi + 2 - intOf k).toNat)
      case atStart =>
        exact ⟨0, by omega, by simp, by rw [OV0.out]; exact ownJ, by rw [OV0.out]; exact ownJ, ownJ, ownJ, ownJ, ownJ, belB⟩
      case round =>
        clear V0 V1 X0 X1 R0 R1 hb cx0 fx0 cx1 fx1
        obtain ⟨j, hj, rfl, V0, V1, X0, X1, R0, R1, hb⟩ := hrel
        have hsz := hb.size
        have lh2 : h < wr.heap.size := World.block_lt_of_cell? _ _ V0.1
        obtain ⟨cx0, fx0⟩ := id X0
        obtain ⟨cx1, fx1⟩ := id X1
        by_cases k : j < n + 2
        · have K : lo - 1 + (j : Int) ≤ hi + 1 := by omega
          have K0 : decide (lo - 1 + (j : Int) ≤ hi + 1) = true := decide_eq_true K
          obtain ⟨m, hm⟩ : ∃ m, m = lo - 1 + (j : Int) := ⟨_, rfl⟩
          have m0 : -200 ≤ m := by omega
          have m1 : m ≤ 200 := by omega
          have WQ : IntKind.i64.wrap (m + q) = m + q := by rw [IntKind.wrap_i64]; omega
          have WN : IntKind.i64.wrap (m + 1) = m + 1 := by rw [IntKind.wrap_i64]; omega
          have AN : bits .and .i64 (m + q) 3 = (m + q) % 4 := and_mask2 _
          have NE : lo - 1 + ((j + 1 : Nat) : Int) = m + 1 := by omega
          have T := Lib.hid (fun w => sTurnI_any m w)
          have O := Lib.hid (fun w => sOverlapI_any (turI m) x w)
          have SE := Lib.hid (OVR.out s0 (lo - 1) j)
          have KM : m ≤ hi + 1 := by omega
          rw [← hm] at SE K0
          rw [← hm]
          clear hm K
          generalize ovF x q s0 (lo - 1) j = s at *
          obtain ⟨ob, hob⟩ : ∃ ob, ob = olpI (turI m) x := ⟨_, rfl⟩
          rw [← hob] at O
          have HO := Lib.hid hob
          clear hob
          go_wp2_with fail
          refine (Q2.out _).mono ?_
          rintro e w20 ⟨rfl, hb20⟩
          have hs20 : _ ≤ w20.heap.size := hb20.size
          try simp at hs20
          have o_ux0 : Own (w20) (w.heap.size) 0 (.int .i64 x.1) := ownJ; have ux0 := o_ux0.1; have f_ux0 := o_ux0.2; have o_ux1 : Own (w20) (w.heap.size) 1 (.int .i64 x.2) := ownJ; have ux1 := o_ux1.1; have f_ux1 := o_ux1.2
          have o_uv0 : Own (w20) (h) 0 (.int .i64 s.1) := ownJ; have uv0 := o_uv0.1; have f_uv0 := o_uv0.2; have o_uv1 : Own (w20) (h) 1 (.int .i64 s.2) := ownJ; have uv1 := o_uv1.1; have f_uv1 := o_uv1.2
          have o_ur0 : Own (w20) (w.heap.size + 1) 0 (.int .i64 0) := ownJ; have ur0 := o_ur0.1; have f_ur0 := o_ur0.2; have o_ur1 : Own (w20) (w.heap.size + 1) 1 (.int .i64 0) := ownJ; have ur1 := o_ur1.1; have f_ur1 := o_ur1.2
          have lw : h < w20.heap.size := World.block_lt_of_cell? _ _ uv0
          have zz5 : w.heap.size < w20.heap.size := World.block_lt_of_cell? _ _ ux0; obtain ⟨zz5a, zz5b, zz5c, zz5d, zz5e, zz5f, zz5g, zz5h, zz5i⟩ := below_more zz5; have zn5 : ¬ w.heap.size = w20.heap.size := Nat.ne_of_lt zz5; have zm5 : ¬ w20.heap.size = w.heap.size := Nat.ne_of_gt zz5
          go_wp2_with fail
          obtain ⟨hlt2, hlt3, hlt4, hlt5, hlt6, hlt7, hlt8, hlt9, hlt10, hlt11⟩ := below_add; go_region_held3 (fun w' => w'.cell? ⟨w.heap.size, 0, none⟩ = some (.int .i64 x.1) ∧ w'.cell? ⟨w.heap.size, 1, none⟩ = some (.int .i64 x.2)) (first | (with_reducible exact ((And.imp (cell_kept (by assumption)) (cell_kept (by assumption))) (by assumption))) | (with_reducible exact ((And.imp (cell_alloc) (cell_alloc)) (by assumption))) | (with_reducible exact ((And.imp (fun h => cell_far (by first | (simp; done) | (simp; omega) | (dsimp only; omega)) (cell_far (by first | (simp; done) | (simp; omega) | (dsimp only; omega)) h)) (fun h => cell_far (by first | (simp; done) | (simp; omega) | (dsimp only; omega)) (cell_far (by first | (simp; done) | (simp; omega) | (dsimp only; omega)) h))) (by assumption))) | (refine ⟨?_, ?_⟩ <;> repeat (first | (with_reducible assumption) | (with_reducible refine cell_far (by first | (simp; done) | (simp; omega) | (dsimp only; omega)) ?_) | (with_reducible refine cell_drew ?_) | (with_reducible refine cell_drewN ?_) | (with_reducible refine cell_kept (by assumption) ?_) | (simp [go_sem]; done) | (with_reducible refine cell_alloc ?_))) | (simp [go_sem, *]; done)) (first | (go_at_call 42; refine (T.out _).mono ?_; rintro e w1 ⟨rfl, hb⟩; have hs : _ ≤ w1.heap.size := hb.size; (try simp at hs); obtain ⟨hc, hf, hl, hn, hm⟩ := behind hb) | (go_at_call 79; refine (O.out _).mono ?_; rintro e w1 ⟨rfl, hb⟩; have hs : _ ≤ w1.heap.size := hb.size; (try simp at hs); obtain ⟨hc, hf, hl, hn, hm⟩ := behind hb))
          all_goals (
            have V0 : Own w1 h 0 (.int .i64 s.1) := ownJ
            have V1 : Own w1 h 1 (.int .i64 s.2) := ownJ
            have X0 : Own w1 w.heap.size 0 (.int .i64 x.1) := ownJ
            have X1 : Own w1 w.heap.size 1 (.int .i64 x.2) := ownJ
            have R0 : Own w1 (w.heap.size + 1) 0 (.int .i64 0) := ownJ
            have R1 : Own w1 (w.heap.size + 1) 1 (.int .i64 0) := ownJ
            have lv1 : h < w1.heap.size := World.block_lt_of_cell? _ _ V0.1
            cases ob
            · have o := HO.out.symm
              have SZ : ovF x q s0 (lo - 1) (j + 1) = s := by rw [SE.out, OVS, if_neg (by rw [o]; simp)]
              clear SE o
              have SE := Lib.hid SZ
              clear SZ
              go_wp2
              go_roundw
              case rel => exact ⟨j + 1, by omega, by first | rw [NE] | go_num, by rw [SE.out]; exact V0, by rw [SE.out]; exact V1, X0, X1, R0, R1, belB⟩
              case measure => first | (simp [intOf]; done) | (simp [intOf]; omega)
            · have o := HO.out.symm
              by_cases p1 : (m + q) % 4 = 1
              · have SZ : ovF x q s0 (lo - 1) (j + 1) = hulI s (intI 1) := by rw [SE.out, OVS, if_pos o, if_pos p1]
                have I1 := Lib.hid (fun w => sInteger_any 1 (by unfold In64; omega) w)
                have H1 := Lib.hid (fun w => sHullI_any s (intI 1) w)
                have t1 : ((m + q) % 4 == 1) = true := by simp [p1]
                clear SE o
                have SE := Lib.hid SZ
                clear SZ p1
                generalize hulI s (intI 1) = hz at *
                generalize intI 1 = i1 at *
                obtain ⟨cs0, fs0⟩ := id V0
                obtain ⟨cs1, fs1⟩ := id V1
                go_wp2_with fail
                refine AnyS.region (S := OneS 3 (fun u => u.cell? ⟨h, 0, none⟩ = some (.int .i64 s.1) ∧ u.cell? ⟨h, 1, none⟩ = some (.int .i64 s.2))) (by kernel_rfl) (show AnyS _ _ _ _ _ 4 _ _ _ from ?_)
                refine AnyS.take (i := 0) (v := .agg #[.int .i64 s.1, .int .i64 s.2]) (T := fun u => u.cell? ⟨h, 0, none⟩ = some (.int .i64 s.1) ∧ u.cell? ⟨h, 1, none⟩ = some (.int .i64 s.2)) [2, 3] rfl (by kernel_rfl) (by kernel_rfl) (by kernel_rfl) (by kernel_rfl) (by kernel_rfl) (fun _ _ _ h => h) (fun L u q s => s (q 3 (by simp))) (fun L u s => OneS.less (by decide) s) (Or.inl ⟨by rfl, ?_⟩) (fun _ => ⟨cs0, cs1⟩) ?_
                · intro u hu
                  obtain ⟨u0, u1⟩ := hu
                  go_simp
                try simp only [Act.put, List.setIfInBounds_toArray, List.set_cons_zero, List.set_cons_succ]
                refine AnyS.one (i := 1) (by kernel_rfl) (AnyS.comes rfl (fun K hK => ?_))
                go_simp
                refine (I1.out _).mono ?_
                rintro e w41 ⟨rfl, hb41⟩
                have hs41 : _ ≤ w41.heap.size := hb41.size
                try simp at hs41
                have o_h0_41 : Own w41 h 0 (.int .i64 s.1) := own_kept hb41 (own_drew V0)
                have o_h1_41 : Own w41 h 1 (.int .i64 s.2) := own_kept hb41 (own_drew V1)
                have o_x0_41 : Own w41 w.heap.size 0 (.int .i64 x.1) := own_kept hb41 (own_drew X0)
                have o_x1_41 : Own w41 w.heap.size 1 (.int .i64 x.2) := own_kept hb41 (own_drew X1)
                have o_r0_41 : Own w41 (w.heap.size + 1) 0 (.int .i64 0) := own_kept hb41 (own_drew R0)
                have o_r1_41 : Own w41 (w.heap.size + 1) 1 (.int .i64 0) := own_kept hb41 (own_drew R1)
                go_wp2_with fail
                refine hK.out _ _ (fun _ => ⟨o_h0_41.1, o_h1_41.1⟩) ?_
                clear hK K
                try simp only [Act.put, List.setIfInBounds_toArray, List.set_cons_zero, List.set_cons_succ]
                refine AnyS.one (i := 2) (by kernel_rfl) (AnyS.comes rfl (fun K hK => ?_))
                go_simp
                refine (H1.out _).mono ?_
                rintro e w42 ⟨rfl, hb42⟩
                have hs42 : _ ≤ w42.heap.size := hb42.size
                try simp at hs42
                have o_h0_42 : Own w42 h 0 (.int .i64 s.1) := own_kept hb42 o_h0_41
                have o_h1_42 : Own w42 h 1 (.int .i64 s.2) := own_kept hb42 o_h1_41
                have o_x0_42 : Own w42 w.heap.size 0 (.int .i64 x.1) := own_kept hb42 o_x0_41
                have o_x1_42 : Own w42 w.heap.size 1 (.int .i64 x.2) := own_kept hb42 o_x1_41
                have o_r0_42 : Own w42 (w.heap.size + 1) 0 (.int .i64 0) := own_kept hb42 o_r0_41
                have o_r1_42 : Own w42 (w.heap.size + 1) 1 (.int .i64 0) := own_kept hb42 o_r1_41
                go_wp2_with fail
                refine hK.out _ _ (fun _ => ⟨o_h0_42.1, o_h1_42.1⟩) ?_
                clear hK K
                try simp only [Act.put, List.setIfInBounds_toArray, List.set_cons_zero, List.set_cons_succ]
                obtain ⟨dh0, gh0⟩ := id o_h0_42
                obtain ⟨dh1, gh1⟩ := id o_h1_42
                refine AnyS.one (i := 3) (by kernel_rfl) (AnyS.comes rfl (fun K hK => ?_))
                go_simp
                refine hK.out _ _ (fun h => absurd h (by decide)) ?_
                clear hK K
                try simp only [Act.put, List.setIfInBounds_toArray, List.set_cons_zero, List.set_cons_succ]
                refine AnyS.done (by kernel_rfl) ?_ _
                go_wp2
                go_roundw
                case rel => exact ⟨j + 1, by omega, by first | rw [NE] | go_num, by rw [SE.out]; exact own_next (by decide) (own_put o_h0_42), by rw [SE.out]; exact own_put (own_next (by decide) o_h1_42), own_far (by dsimp only; omega) (own_far (by dsimp only; omega) o_x0_42), own_far (by dsimp only; omega) (own_far (by dsimp only; omega) o_x1_42), own_far (by dsimp only; omega) (own_far (by dsimp only; omega) o_r0_42), own_far (by dsimp only; omega) (own_far (by dsimp only; omega) o_r1_42), belB⟩
                case measure => first | (simp [intOf]; done) | (simp [intOf]; omega)
              · by_cases p3 : (m + q) % 4 = 3
                · have SZ : ovF x q s0 (lo - 1) (j + 1) = hulI s (intI (-1)) := by rw [SE.out, OVS, if_pos o, if_neg p1, if_pos p3]
                  have I3 := Lib.hid (fun w => sInteger_any (-1) (by unfold In64; omega) w)
                  have H3 := Lib.hid (fun w => sHullI_any s (intI (-1)) w)
                  have t1 : ((m + q) % 4 == 1) = false := by simp [p3]
                  have t3 : ((m + q) % 4 == 3) = true := by simp [p3]
                  clear SE o
                  have SE := Lib.hid SZ
                  clear SZ p1 p3
                  generalize hulI s (intI (-1)) = hz at *
                  generalize intI (-1) = i1 at *
                  obtain ⟨cs0, fs0⟩ := id V0
                  obtain ⟨cs1, fs1⟩ := id V1
                  go_wp2_with fail
                  refine AnyS.region (S := OneS 3 (fun u => u.cell? ⟨h, 0, none⟩ = some (.int .i64 s.1) ∧ u.cell? ⟨h, 1, none⟩ = some (.int .i64 s.2))) (by kernel_rfl) (show AnyS _ _ _ _ _ 4 _ _ _ from ?_)
                  refine AnyS.take (i := 0) (v := .agg #[.int .i64 s.1, .int .i64 s.2]) (T := fun u => u.cell? ⟨h, 0, none⟩ = some (.int .i64 s.1) ∧ u.cell? ⟨h, 1, none⟩ = some (.int .i64 s.2)) [2, 3] rfl (by kernel_rfl) (by kernel_rfl) (by kernel_rfl) (by kernel_rfl) (by kernel_rfl) (fun _ _ _ h => h) (fun L u q s => s (q 3 (by simp))) (fun L u s => OneS.less (by decide) s) (Or.inl ⟨by rfl, ?_⟩) (fun _ => ⟨cs0, cs1⟩) ?_
                  · intro u hu
                    obtain ⟨u0, u1⟩ := hu
                    go_simp
                  try simp only [Act.put, List.setIfInBounds_toArray, List.set_cons_zero, List.set_cons_succ]
                  refine AnyS.one (i := 1) (by kernel_rfl) (AnyS.comes rfl (fun K hK => ?_))
                  go_simp
                  refine (I3.out _).mono ?_
                  rintro e w41 ⟨rfl, hb41⟩
                  have hs41 : _ ≤ w41.heap.size := hb41.size
                  try simp at hs41
                  have o_h0_41 : Own w41 h 0 (.int .i64 s.1) := own_kept hb41 (own_drew V0)
                  have o_h1_41 : Own w41 h 1 (.int .i64 s.2) := own_kept hb41 (own_drew V1)
                  have o_x0_41 : Own w41 w.heap.size 0 (.int .i64 x.1) := own_kept hb41 (own_drew X0)
                  have o_x1_41 : Own w41 w.heap.size 1 (.int .i64 x.2) := own_kept hb41 (own_drew X1)
                  have o_r0_41 : Own w41 (w.heap.size + 1) 0 (.int .i64 0) := own_kept hb41 (own_drew R0)
                  have o_r1_41 : Own w41 (w.heap.size + 1) 1 (.int .i64 0) := own_kept hb41 (own_drew R1)
                  go_wp2_with fail
                  refine hK.out _ _ (fun _ => ⟨o_h0_41.1, o_h1_41.1⟩) ?_
                  clear hK K
                  try simp only [Act.put, List.setIfInBounds_toArray, List.set_cons_zero, List.set_cons_succ]
                  refine AnyS.one (i := 2) (by kernel_rfl) (AnyS.comes rfl (fun K hK => ?_))
                  go_simp
                  refine (H3.out _).mono ?_
                  rintro e w42 ⟨rfl, hb42⟩
                  have hs42 : _ ≤ w42.heap.size := hb42.size
                  try simp at hs42
                  have o_h0_42 : Own w42 h 0 (.int .i64 s.1) := own_kept hb42 o_h0_41
                  have o_h1_42 : Own w42 h 1 (.int .i64 s.2) := own_kept hb42 o_h1_41
                  have o_x0_42 : Own w42 w.heap.size 0 (.int .i64 x.1) := own_kept hb42 o_x0_41
                  have o_x1_42 : Own w42 w.heap.size 1 (.int .i64 x.2) := own_kept hb42 o_x1_41
                  have o_r0_42 : Own w42 (w.heap.size + 1) 0 (.int .i64 0) := own_kept hb42 o_r0_41
                  have o_r1_42 : Own w42 (w.heap.size + 1) 1 (.int .i64 0) := own_kept hb42 o_r1_41
                  go_wp2_with fail
                  refine hK.out _ _ (fun _ => ⟨o_h0_42.1, o_h1_42.1⟩) ?_
                  clear hK K
                  try simp only [Act.put, List.setIfInBounds_toArray, List.set_cons_zero, List.set_cons_succ]
                  obtain ⟨dh0, gh0⟩ := id o_h0_42
                  obtain ⟨dh1, gh1⟩ := id o_h1_42
                  refine AnyS.one (i := 3) (by kernel_rfl) (AnyS.comes rfl (fun K hK => ?_))
                  go_simp
                  refine hK.out _ _ (fun h => absurd h (by decide)) ?_
                  clear hK K
                  try simp only [Act.put, List.setIfInBounds_toArray, List.set_cons_zero, List.set_cons_succ]
                  refine AnyS.done (by kernel_rfl) ?_ _
                  go_wp2
                  go_roundw
                  case rel => exact ⟨j + 1, by omega, by first | rw [NE] | go_num, by rw [SE.out]; exact own_next (by decide) (own_put o_h0_42), by rw [SE.out]; exact own_put (own_next (by decide) o_h1_42), own_far (by dsimp only; omega) (own_far (by dsimp only; omega) o_x0_42), own_far (by dsimp only; omega) (own_far (by dsimp only; omega) o_x1_42), own_far (by dsimp only; omega) (own_far (by dsimp only; omega) o_r0_42), own_far (by dsimp only; omega) (own_far (by dsimp only; omega) o_r1_42), belB⟩
                  case measure => first | (simp [intOf]; done) | (simp [intOf]; omega)
                · have SZ : ovF x q s0 (lo - 1) (j + 1) = s := by rw [SE.out, OVS, if_pos o, if_neg p1, if_neg p3]
                  have t1 : ((m + q) % 4 == 1) = false := by simpa using p1
                  have t3 : ((m + q) % 4 == 3) = false := by simpa using p3
                  clear SE o
                  have SE := Lib.hid SZ
                  clear SZ p1 p3
                  go_wp2
                  go_roundw
                  case rel => exact ⟨j + 1, by omega, by first | rw [NE] | go_num, by rw [SE.out]; exact V0, by rw [SE.out]; exact V1, X0, X1, R0, R1, belB⟩
                  case measure => first | (simp [intOf]; done) | (simp [intOf]; omega))
        · obtain rfl : j = n + 2 := by omega
          have K0 : decide (lo - 1 + ((n + 2 : Nat) : Int) ≤ hi + 1) = false := decide_eq_false (by omega)
          have EF := EM.out
          rw [EF] at V0 V1
          go_wp2_with fail
          refine (Q2.out _).mono ?_
          rintro e w20 ⟨rfl, hb20⟩
          have hs20 : _ ≤ w20.heap.size := hb20.size
          try simp at hs20
          have o_e00 : Own (w20) (h) 0 (.int .i64 Y.1) := ownJ; have e00 := o_e00.1; have f_e00 := o_e00.2; have o_e01 : Own (w20) (h) 1 (.int .i64 Y.2) := ownJ; have e01 := o_e01.1; have f_e01 := o_e01.2
          have o_er0 : Own (w20) (w.heap.size + 1) 0 (.int .i64 0) := ownJ; have er0 := o_er0.1; have f_er0 := o_er0.2; have o_er1 : Own (w20) (w.heap.size + 1) 1 (.int .i64 0) := ownJ; have er1 := o_er1.1; have f_er1 := o_er1.2
          have zz5 : w.heap.size + 1 < w20.heap.size := World.block_lt_of_cell? _ _ er0; obtain ⟨zz5a, zz5b, zz5c, zz5d, zz5e, zz5f, zz5g, zz5h, zz5i⟩ := below_more zz5; have zn5 : ¬ w.heap.size + 1 = w20.heap.size := Nat.ne_of_lt zz5; have zm5 : ¬ w20.heap.size = w.heap.size + 1 := Nat.ne_of_gt zz5
          go_wp2
          exact bodyPost_ret (v := .agg #[.int .i64 Y.1, .int .i64 Y.2]) (by simp [results, Tryz.results75, go_sem, e00, e01, er0, er1]) rfl ⟨rfl, belB⟩
end Go.Proofs.YtnhpacaidcjaoaaGreatDoor
namespace Go.Proofs.YtnhpacaidcjaoaaGreatDoor
open Go.ChangeShapes Go.WideShapes Go.ChangeAt Go.RowKit
set_option linter.unusedVariables false
set_option maxRecDepth 100000
set_option linter.unusedSimpArgs false
set_option maxHeartbeats 1000000
set_option maxHeartbeats 8000000 in
theorem sTanI_any (x : Iv) (hx : Ok x) (w : World) : Calls Tryz.prog 32 #[.agg #[.int .i64 x.1, .int .i64 x.2]] w fun e w' =>
    e = .returned (.agg #[.int .i64 (tanV x).1, .int .i64 (tanV x).2]) ∧ Below w.heap.size w w' := by
  have CF := Lib.hid (fun w => l06Fits_any x w)
  cases hf : fitA x
  · rw [hf] at CF
    have E := Lib.hid (show tanV x = whl from if_neg (by rw [hf]; simp))
    clear hf
    go_enter Tryz.func32, Tryz.ntmps32
    go_wp2_with fail
    refine (CF.out _).mono ?_
    rintro e w1 ⟨rfl, hb1⟩
    have hs1 : _ ≤ w1.heap.size := hb1.size
    try simp at hs1
    have o_r10 : Own (w1) (w.heap.size + 1) 0 (.int .i64 0) := ownJ; have r10 := o_r10.1; have f_r10 := o_r10.2; have o_r11 : Own (w1) (w.heap.size + 1) 1 (.int .i64 0) := ownJ; have r11 := o_r11.1; have f_r11 := o_r11.2
    go_wp2_with fail
    refine (sWhole_any _).mono ?_
    rintro e w2 ⟨rfl, hb2⟩
    have hs2 : _ ≤ w2.heap.size := hb2.size
    try simp at hs2
    have o_r20 : Own (w2) (w.heap.size + 1) 0 (.int .i64 0) := ownJ; have r20 := o_r20.1; have f_r20 := o_r20.2; have o_r21 : Own (w2) (w.heap.size + 1) 1 (.int .i64 0) := ownJ; have r21 := o_r21.1; have f_r21 := o_r21.2
    go_wp2
    exact bodyPost_ret (v := .agg #[.int .i64 (-1152921504606846976), .int .i64 1152921504606846976]) (by simp [results, Tryz.results32, go_sem, r20, r21]) rfl ⟨(by first | (rw [E.out]; done) | (rw [E.out]; rfl) | (simp [E.out]; done)), belB⟩
  · rw [hf] at CF
    have S1 := Lib.hid (fun w => sSinAt_any x.1 hx.1 w)
    have S2 := Lib.hid (fun w => sSinAt_any x.2 hx.2 w)
    have C1 := Lib.hid (fun w => sCosAt_any x.1 hx.1 w)
    have C2 := Lib.hid (fun w => sCosAt_any x.2 hx.2 w)
    have D1 := Lib.hid (fun w => sDivI_any (sinA x.1 0) (sinA x.1 1) w)
    have D2 := Lib.hid (fun w => sDivI_any (sinA x.2 0) (sinA x.2 1) w)
    have H := Lib.hid (fun w => sHullI_any (tanA x.1) (tanA x.2) w)
    have e1 : divI (sinA x.1 0) (sinA x.1 1) = tanA x.1 := rfl
    have e2 : divI (sinA x.2 0) (sinA x.2 1) = tanA x.2 := rfl
    rw [e1] at D1
    rw [e2] at D2
    have Q1 := Lib.hid (fun w => sQuarterOf_any x.1 hx.1 w)
    have Q2 := Lib.hid (fun w => sQuarterOf_any x.2 hx.2 w)
    have hq1 := qrt_in x.1
    have hq2 := qrt_in x.2
    have hc := cnt_val hf
    have TI := Lib.hid (fun (j : Nat) (hj : j < cnt x + 2) (o : olpI (turI (qrt x.1 - 1 + (j : Int))) x = true) (d : oddB (qrt x.1 - 1 + (j : Int)) = true) => (show tanV x = whl from by obtain ⟨k, k1, k2⟩ := touch_in hf hj o; exact tanV_odd hf k1 (by rw [k2]; exact d)))
    have TE := Lib.hid (fun (z : ∀ i : Nat, i < cnt x + 2 → ¬ (oddB (qrt x.1 - 1 + (i : Int)) = true ∧ olpI (turI (qrt x.1 - 1 + (i : Int))) x = true)) => (show tanV x = hulI (tanA x.1) (tanA x.2) from tanV_even hf (fun k m => by obtain ⟨j, j1, j2, j3⟩ := in_touch hf m; cases o : oddB k.1; rfl; exact absurd ⟨by rw [← j2]; exact o, j3⟩ (z j j1))))
    obtain ⟨n, hn⟩ : ∃ n, n = cnt x := ⟨_, rfl⟩
    rw [← hn] at hc TI TE
    clear hf hn e1 e2
    generalize tanV x = Y at *
    generalize hulI (tanA x.1) (tanA x.2) = hz at *
    generalize tanA x.1 = ta at *
    generalize tanA x.2 = tb at *
    generalize sinA x.1 0 = sa at *
    generalize sinA x.2 0 = sb at *
    generalize sinA x.1 1 = ca at *
    generalize sinA x.2 1 = cb at *
    have WL : IntKind.i64.wrap (qrt x.1 - 1) = qrt x.1 - 1 := by rw [IntKind.wrap_i64]; omega
    have WH : IntKind.i64.wrap (qrt x.2 + 1) = qrt x.2 + 1 := by rw [IntKind.wrap_i64]; omega
    generalize qrt x.1 = lo at *
    generalize qrt x.2 = hi at *
    obtain ⟨lo0, lo1⟩ := hq1
    obtain ⟨hi0, hi1⟩ := hq2
    go_enter Tryz.func32, Tryz.ntmps32
    go_wp2_with fail
    refine (CF.out _).mono ?_
    rintro e w1 ⟨rfl, hb1⟩
    have hs1 : _ ≤ w1.heap.size := hb1.size
    try simp at hs1
    have o_x10 : Own (w1) (w.heap.size) 0 (.int .i64 x.1) := ownJ; have x10 := o_x10.1; have f_x10 := o_x10.2; have o_x11 : Own (w1) (w.heap.size) 1 (.int .i64 x.2) := ownJ; have x11 := o_x11.1; have f_x11 := o_x11.2
    have o_r10 : Own (w1) (w.heap.size + 1) 0 (.int .i64 0) := ownJ; have r10 := o_r10.1; have f_r10 := o_r10.2; have o_r11 : Own (w1) (w.heap.size + 1) 1 (.int .i64 0) := ownJ; have r11 := o_r11.1; have f_r11 := o_r11.2
    go_wp2_with fail
    refine (Q1.out _).mono ?_
    rintro e w3 ⟨rfl, hb3⟩
    have hs3 : _ ≤ w3.heap.size := hb3.size
    try simp at hs3
    go_wp2_with fail
    go_loopw [3] (fun k wr => ∃ j : Nat, j ≤ n + 2 ∧ k = .int .i64 (lo - 1 + (j : Int)) ∧ (∀ i : Nat, i < j → ¬ (oddB (lo - 1 + (i : Int)) = true ∧ olpI (turI (lo - 1 + (i : Int))) x = true)) ∧ Own wr w.heap.size 0 (.int .i64 x.1) ∧ Own wr w.heap.size 1 (.int .i64 x.2) ∧ Own wr (w.heap.size + 1) 0 (.int .i64 0) ∧ Own wr (w.heap.size + 1) 1 (.int .i64 0) ∧ Below w.heap.size w wr) (fun k _ => (hi + 2 - intOf k).toNat)
    case atStart =>
      exact ⟨0, by omega, by simp, fun i hi => absurd hi (by omega), ownJ, ownJ, ownJ, ownJ, belB⟩
    case round =>
      clear o_x10 x10 f_x10 o_x11 x11 f_x11 o_r10 r10 f_r10 o_r11 r11 f_r11 hb1 hs1 hb3 hs3
      obtain ⟨j, hj, rfl, NO, X0, X1, R0, R1, hb⟩ := hrel
      have hsz := hb.size
      obtain ⟨cx0, fx0⟩ := id X0
      obtain ⟨cx1, fx1⟩ := id X1
      have lh2 : w.heap.size + 1 < wr.heap.size := World.block_lt_of_cell? _ _ R0.1
      by_cases k : j < n + 2
      · have K : lo - 1 + (j : Int) ≤ hi + 1 := by omega
        have K0 : decide (lo - 1 + (j : Int) ≤ hi + 1) = true := decide_eq_true K
        have NX : ¬ (oddB (lo - 1 + (j : Int)) = true ∧ olpI (turI (lo - 1 + (j : Int))) x = true) → ∀ i : Nat, i < j + 1 → ¬ (oddB (lo - 1 + (i : Int)) = true ∧ olpI (turI (lo - 1 + (i : Int))) x = true) := fun h i hi => by
          by_cases e : i = j
          · subst e; exact h
          · exact NO i (by omega)
        have TI' := TI.out j k
        have NN := Lib.hid NX
        clear TI TE NX NO
        obtain ⟨m, hm⟩ : ∃ m, m = lo - 1 + (j : Int) := ⟨_, rfl⟩
        have m0 : -200 ≤ m := by omega
        have m1 : m ≤ 200 := by omega
        have WN : IntKind.i64.wrap (m + 1) = m + 1 := by rw [IntKind.wrap_i64]; omega
        have AN : bits .and .i64 m 1 = m % 2 := and_unit _
        have NE : lo - 1 + ((j + 1 : Nat) : Int) = m + 1 := by omega
        have T := Lib.hid (fun w => sTurnI_any m w)
        have O := Lib.hid (fun w => sOverlapI_any (turI m) x w)
        have KM : m ≤ hi + 1 := by omega
        rw [← hm] at K0 TI' NN
        rw [← hm]
        clear hm K
        by_cases od : m % 2 = 1
        · have t1 : (m % 2 == 1) = true := by simp [od]
          obtain ⟨ob, hob⟩ : ∃ ob, ob = olpI (turI m) x := ⟨_, rfl⟩
          rw [← hob] at O
          have HO := Lib.hid hob
          have HT := Lib.hid (fun (o : olpI (turI m) x = true) => TI' o (decide_eq_true od))
          have HN := Lib.hid (fun (o : olpI (turI m) x = false) => NN.out (fun h => by rw [o] at h; cases h.2))
          clear hob od NN TI'
          go_wp2_with fail
          refine (Q2.out _).mono ?_
          rintro e w20 ⟨rfl, hb20⟩
          have hs20 : _ ≤ w20.heap.size := hb20.size
          try simp at hs20
          have o_ux0 : Own (w20) (w.heap.size) 0 (.int .i64 x.1) := ownJ; have ux0 := o_ux0.1; have f_ux0 := o_ux0.2; have o_ux1 : Own (w20) (w.heap.size) 1 (.int .i64 x.2) := ownJ; have ux1 := o_ux1.1; have f_ux1 := o_ux1.2
          have o_ur0 : Own (w20) (w.heap.size + 1) 0 (.int .i64 0) := ownJ; have ur0 := o_ur0.1; have f_ur0 := o_ur0.2; have o_ur1 : Own (w20) (w.heap.size + 1) 1 (.int .i64 0) := ownJ; have ur1 := o_ur1.1; have f_ur1 := o_ur1.2
          have zz5 : w.heap.size < w20.heap.size := World.block_lt_of_cell? _ _ ux0; obtain ⟨zz5a, zz5b, zz5c, zz5d, zz5e, zz5f, zz5g, zz5h, zz5i⟩ := below_more zz5; have zn5 : ¬ w.heap.size = w20.heap.size := Nat.ne_of_lt zz5; have zm5 : ¬ w20.heap.size = w.heap.size := Nat.ne_of_gt zz5
          go_wp2_with fail
          obtain ⟨hlt2, hlt3, hlt4, hlt5, hlt6, hlt7, hlt8, hlt9, hlt10, hlt11⟩ := below_add; go_region_held3 (fun w' => w'.cell? ⟨w.heap.size, 0, none⟩ = some (.int .i64 x.1) ∧ w'.cell? ⟨w.heap.size, 1, none⟩ = some (.int .i64 x.2)) (first | (with_reducible exact ((And.imp (cell_kept (by assumption)) (cell_kept (by assumption))) (by assumption))) | (with_reducible exact ((And.imp (cell_alloc) (cell_alloc)) (by assumption))) | (with_reducible exact ((And.imp (fun h => cell_far (by first | (simp; done) | (simp; omega) | (dsimp only; omega)) (cell_far (by first | (simp; done) | (simp; omega) | (dsimp only; omega)) h)) (fun h => cell_far (by first | (simp; done) | (simp; omega) | (dsimp only; omega)) (cell_far (by first | (simp; done) | (simp; omega) | (dsimp only; omega)) h))) (by assumption))) | (refine ⟨?_, ?_⟩ <;> repeat (first | (with_reducible assumption) | (with_reducible refine cell_far (by first | (simp; done) | (simp; omega) | (dsimp only; omega)) ?_) | (with_reducible refine cell_drew ?_) | (with_reducible refine cell_drewN ?_) | (with_reducible refine cell_kept (by assumption) ?_) | (simp [go_sem]; done) | (with_reducible refine cell_alloc ?_))) | (simp [go_sem, *]; done)) (first | (go_at_call 42; refine (T.out _).mono ?_; rintro e w1 ⟨rfl, hb⟩; have hs : _ ≤ w1.heap.size := hb.size; (try simp at hs); obtain ⟨hc, hf, hl, hn, hm⟩ := behind hb) | (go_at_call 79; refine (O.out _).mono ?_; rintro e w1 ⟨rfl, hb⟩; have hs : _ ≤ w1.heap.size := hb.size; (try simp at hs); obtain ⟨hc, hf, hl, hn, hm⟩ := behind hb))
          all_goals (
            have X0 : Own w1 w.heap.size 0 (.int .i64 x.1) := ownJ
            have X1 : Own w1 w.heap.size 1 (.int .i64 x.2) := ownJ
            have R0 : Own w1 (w.heap.size + 1) 0 (.int .i64 0) := ownJ
            have R1 : Own w1 (w.heap.size + 1) 1 (.int .i64 0) := ownJ
            have lv1 : w.heap.size + 1 < w1.heap.size := World.block_lt_of_cell? _ _ R0.1
            obtain ⟨cr0, fr0⟩ := id R0
            obtain ⟨cr1, fr1⟩ := id R1
            cases ob
            · have NN2 := Lib.hid (HN.out HO.out.symm)
              go_wp2
              go_roundw
              case rel => exact ⟨j + 1, by omega, by first | rw [NE] | go_num, NN2.out, X0, X1, R0, R1, belB⟩
              case measure => first | (simp [intOf]; done) | (simp [intOf]; omega)
            · have E := Lib.hid (HT.out HO.out.symm)
              go_wp2_with fail
              refine (sWhole_any _).mono ?_
              rintro e w50 ⟨rfl, hb50⟩
              have hs50 : _ ≤ w50.heap.size := hb50.size
              try simp at hs50
              have o_r500 : Own (w50) (w.heap.size + 1) 0 (.int .i64 0) := ownJ; have r500 := o_r500.1; have f_r500 := o_r500.2; have o_r501 : Own (w50) (w.heap.size + 1) 1 (.int .i64 0) := ownJ; have r501 := o_r501.1; have f_r501 := o_r501.2
              go_wp2
              exact bodyPost_ret (v := .agg #[.int .i64 (-1152921504606846976), .int .i64 1152921504606846976]) (by simp [results, Tryz.results32, go_sem, r500, r501]) rfl ⟨(by first | (rw [E.out]; done) | (rw [E.out]; rfl) | (simp [E.out]; done)), belB⟩)
        · have t1 : (m % 2 == 1) = false := by simpa using od
          have NN2 := Lib.hid (NN.out (fun h => od (of_decide_eq_true h.1)))
          clear od NN TI'
          go_wp2_with fail
          refine (Q2.out _).mono ?_
          rintro e w20 ⟨rfl, hb20⟩
          have hs20 : _ ≤ w20.heap.size := hb20.size
          try simp at hs20
          have X0 : Own w20 w.heap.size 0 (.int .i64 x.1) := ownJ
          have X1 : Own w20 w.heap.size 1 (.int .i64 x.2) := ownJ
          have R0 : Own w20 (w.heap.size + 1) 0 (.int .i64 0) := ownJ
          have R1 : Own w20 (w.heap.size + 1) 1 (.int .i64 0) := ownJ
          obtain ⟨ux0, vx0⟩ := id X0
          obtain ⟨ux1, vx1⟩ := id X1
          go_wp2_with fail
          refine AnyS.region (S := OneS 8 (fun _ => True)) (by kernel_rfl) (show AnyS _ _ _ _ _ 9 _ _ _ from ?_)
          refine AnyS.take (i := 0) (v := .int .i64 m) (T := fun _ => True) [] rfl (by kernel_rfl) (by kernel_rfl) (by kernel_rfl) (by kernel_rfl) (by kernel_rfl) (fun _ _ _ h => h) (fun L u q s => trivial) (fun L u s => OneS.less (by decide) s) (Or.inl ⟨by rfl, ?_⟩) (fun _ => trivial) ?_
          · intro u hu
            clear hu
            go_simp
          try simp only [Act.put, List.setIfInBounds_toArray, List.set_cons_zero, List.set_cons_succ]
          refine AnyS.take (i := 1) (v := .int .i64 (m % 2)) (T := fun _ => True) [] rfl (by kernel_rfl) (by kernel_rfl) (by kernel_rfl) (by kernel_rfl) (by kernel_rfl) (fun _ _ _ h => h) (fun L u q s => trivial) (fun L u s => OneS.less (by decide) s) (Or.inl ⟨by rfl, ?_⟩) (fun _ => trivial) ?_
          · intro u hu
            clear hu
            go_simp
          try simp only [Act.put, List.setIfInBounds_toArray, List.set_cons_zero, List.set_cons_succ]
          refine AnyS.take (i := 2) (v := .bool false) (T := fun _ => True) [] rfl (by kernel_rfl) (by kernel_rfl) (by kernel_rfl) (by kernel_rfl) (by kernel_rfl) (fun _ _ _ h => h) (fun L u q s => trivial) (fun L u s => OneS.less (by decide) s) (Or.inl ⟨by rfl, ?_⟩) (fun _ => trivial) ?_
          · intro u hu
            clear hu
            go_simp
          try simp only [Act.put, List.setIfInBounds_toArray, List.set_cons_zero, List.set_cons_succ]
          refine AnyS.take (i := 3) (v := .bool false) (T := fun _ => True) [] rfl (by kernel_rfl) (by kernel_rfl) (by kernel_rfl) (by kernel_rfl) (by kernel_rfl) (fun _ _ _ h => h) (fun L u q s => trivial) (fun L u s => OneS.less (by decide) s) (Or.inl ⟨by rfl, ?_⟩) (fun _ => trivial) ?_
          · intro u hu
            clear hu
            go_simp
          try simp only [Act.put, List.setIfInBounds_toArray, List.set_cons_zero, List.set_cons_succ]
          refine AnyS.take (i := 4) (v := undef) (T := fun _ => True) [] rfl (by kernel_rfl) (by kernel_rfl) (by kernel_rfl) (by kernel_rfl) (by kernel_rfl) (fun _ _ _ h => h) (fun L u q s => trivial) (fun L u s => OneS.less (by decide) s) (Or.inr ⟨by rfl, rfl⟩) (fun _ => trivial) ?_
          try simp only [Act.put, List.setIfInBounds_toArray, List.set_cons_zero, List.set_cons_succ]
          refine AnyS.take (i := 6) (v := undef) (T := fun _ => True) [] rfl (by kernel_rfl) (by kernel_rfl) (by kernel_rfl) (by kernel_rfl) (by kernel_rfl) (fun _ _ _ h => h) (fun L u q s => trivial) (fun L u s => OneS.less (by decide) s) (Or.inr ⟨by rfl, rfl⟩) (fun _ => trivial) ?_
          try simp only [Act.put, List.setIfInBounds_toArray, List.set_cons_zero, List.set_cons_succ]
          refine AnyS.one (i := 5) (by kernel_rfl) (AnyS.comes rfl (fun K hK => ?_))
          go_simp
          refine hK.out _ _ (fun _ => trivial) ?_
          clear hK K
          try simp only [Act.put, List.setIfInBounds_toArray, List.set_cons_zero, List.set_cons_succ]
          refine AnyS.one (i := 7) (by kernel_rfl) (AnyS.comes rfl (fun K hK => ?_))
          go_simp
          refine hK.out _ _ (fun _ => trivial) ?_
          clear hK K
          try simp only [Act.put, List.setIfInBounds_toArray, List.set_cons_zero, List.set_cons_succ]
          refine AnyS.one (i := 8) (by kernel_rfl) (AnyS.comes rfl (fun K hK => ?_))
          go_simp
          refine hK.out _ _ (fun _ => trivial) ?_
          clear hK K
          try simp only [Act.put, List.setIfInBounds_toArray, List.set_cons_zero, List.set_cons_succ]
          refine AnyS.done (by kernel_rfl) ?_ _
          have X0 := own_drew X0
          have X1 := own_drew X1
          have R0 := own_drew R0
          have R1 := own_drew R1
          go_wp2
          go_roundw
          case rel => exact ⟨j + 1, by omega, by first | rw [NE] | go_num, NN2.out, ownJ, ownJ, ownJ, ownJ, belB⟩
          case measure => first | (simp [intOf]; done) | (simp [intOf]; omega)
      · obtain rfl : j = n + 2 := by omega
        have K0 : decide (lo - 1 + ((n + 2 : Nat) : Int) ≤ hi + 1) = false := decide_eq_false (by omega)
        have E := Lib.hid (TE.out (fun i hi => NO i hi))
        clear TI TE NO
        go_wp2_with fail
        refine (Q2.out _).mono ?_
        rintro e w20 ⟨rfl, hb20⟩
        have hs20 : _ ≤ w20.heap.size := hb20.size
        try simp at hs20
        have X0 : Own w20 w.heap.size 0 (.int .i64 x.1) := ownJ
        have X1 : Own w20 w.heap.size 1 (.int .i64 x.2) := ownJ
        have R0 : Own w20 (w.heap.size + 1) 0 (.int .i64 0) := ownJ
        have R1 : Own w20 (w.heap.size + 1) 1 (.int .i64 0) := ownJ
        obtain ⟨ux0, vx0⟩ := id X0
        obtain ⟨ux1, vx1⟩ := id X1
        have lw1 : w.heap.size + 1 < w20.heap.size := World.block_lt_of_cell? _ _ R0.1
        have lw2 : w.heap.size < w20.heap.size := by omega
        have z0 := pslot_of (w := w20) (a := ⟨w.heap.size + 1, 0, none⟩) (v := .int .i64 0) R0.1 R0.2
        have z1 := pslot_of (w := w20) (a := ⟨w.heap.size + 1, 1, none⟩) (v := .int .i64 0) R1.1 R1.2
        go_wp2_with fail
        obtain ⟨hlt2, hlt3, hlt4, hlt5, hlt6, hlt7, hlt8, hlt9, hlt10, hlt11⟩ := below_add; go_region_held3 (fun w' => w'.cell? ⟨w.heap.size, 0, none⟩ = some (.int .i64 x.1) ∧ w'.cell? ⟨w.heap.size, 1, none⟩ = some (.int .i64 x.2) ∧ (w'.cell? ⟨w.heap.size + 1, 0, none⟩ = some (peek w' ⟨w.heap.size + 1, 0, none⟩) ∧ w'.frozen? ⟨w.heap.size + 1, 0, none⟩ = false) ∧ (w'.cell? ⟨w.heap.size + 1, 1, none⟩ = some (peek w' ⟨w.heap.size + 1, 1, none⟩) ∧ w'.frozen? ⟨w.heap.size + 1, 1, none⟩ = false)) (first | (with_reducible exact ((And.imp (cell_kept (by assumption)) (And.imp (cell_kept (by assumption)) (And.imp (pslot_kept (by assumption)) (pslot_kept (by assumption))))) (by assumption))) | (with_reducible exact ((And.imp (cell_alloc) (And.imp (cell_alloc) (And.imp (pslot_alloc) (pslot_alloc)))) (by assumption))) | (with_reducible exact ((And.imp (fun h => cell_far (by first | (simp; done) | (simp; omega) | (dsimp only; omega)) (cell_far (by first | (simp; done) | (simp; omega) | (dsimp only; omega)) h)) (And.imp (fun h => cell_far (by first | (simp; done) | (simp; omega) | (dsimp only; omega)) (cell_far (by first | (simp; done) | (simp; omega) | (dsimp only; omega)) h)) (And.imp (fun h => pslot_set (pslot_set h)) (fun h => pslot_set (pslot_set h))))) (by assumption))) | (refine ⟨?_, ?_, ?_, ?_⟩ <;> repeat (first | (with_reducible assumption) | (with_reducible refine cell_far (by first | (simp; done) | (simp; omega) | (dsimp only; omega)) ?_) | (with_reducible refine cell_drew ?_) | (with_reducible refine cell_drewN ?_) | (with_reducible refine cell_kept (by assumption) ?_) | (with_reducible exact pslot_of (by assumption) (by assumption)) | (with_reducible refine pslot_drew ?_) | (with_reducible refine pslot_kept (by assumption) ?_) | (with_reducible refine pslot_alloc ?_) | (simp [go_sem]; done) | (with_reducible refine cell_alloc ?_))) | (simp [go_sem, *]; done)) (first | (go_at_call 34; with_reducible refine (S1.out _).mono ?_; rintro e w1 ⟨rfl, hb⟩; have hs : _ ≤ w1.heap.size := hb.size; (try simp at hs); obtain ⟨hc, hf, hl, hn, hm⟩ := behind hb) | (go_at_call 34; with_reducible refine (S2.out _).mono ?_; rintro e w1 ⟨rfl, hb⟩; have hs : _ ≤ w1.heap.size := hb.size; (try simp at hs); obtain ⟨hc, hf, hl, hn, hm⟩ := behind hb) | (go_at_call 36; with_reducible refine (C1.out _).mono ?_; rintro e w1 ⟨rfl, hb⟩; have hs : _ ≤ w1.heap.size := hb.size; (try simp at hs); obtain ⟨hc, hf, hl, hn, hm⟩ := behind hb) | (go_at_call 36; with_reducible refine (C2.out _).mono ?_; rintro e w1 ⟨rfl, hb⟩; have hs : _ ≤ w1.heap.size := hb.size; (try simp at hs); obtain ⟨hc, hf, hl, hn, hm⟩ := behind hb) | (go_at_call 44; with_reducible refine (D1.out _).mono ?_; rintro e w1 ⟨rfl, hb⟩; have hs : _ ≤ w1.heap.size := hb.size; (try simp at hs); obtain ⟨hc, hf, hl, hn, hm⟩ := behind hb) | (go_at_call 44; with_reducible refine (D2.out _).mono ?_; rintro e w1 ⟨rfl, hb⟩; have hs : _ ≤ w1.heap.size := hb.size; (try simp at hs); obtain ⟨hc, hf, hl, hn, hm⟩ := behind hb) | (go_at_call 57; refine (H.out _).mono ?_; rintro e w1 ⟨rfl, hb⟩; have hs : _ ≤ w1.heap.size := hb.size; (try simp at hs); obtain ⟨hc, hf, hl, hn, hm⟩ := behind hb))
        all_goals (go_wp2; have o_j0 : Own (w1) (w.heap.size + 1) 0 (.int .i64 0) := ownJ; obtain ⟨j0, f_j0⟩ := o_j0; have o_j1 : Own (w1) (w.heap.size + 1) 1 (.int .i64 0) := ownJ; obtain ⟨j1, f_j1⟩ := o_j1; exact bodyPost_ret (v := .agg #[.int .i64 (hz).1, .int .i64 (hz).2]) (by simp [results, Tryz.results32, go_sem, j0, j1]) rfl ⟨by rw [E.out], belB⟩)
theorem sSinI_any (x : Iv) (hx : Ok x) (w : World) : Calls Tryz.prog 28 #[.agg #[.int .i64 x.1, .int .i64 x.2]] w fun e w' =>
    e = .returned (.agg #[.int .i64 (sinV x 0).1, .int .i64 (sinV x 0).2]) ∧ Below w.heap.size w w' := by
  have S := Lib.hid (fun w => l06Over_any x hx 0 (by omega) (by omega) w)
  generalize sinV x 0 = r at *
  go_enter Tryz.func28, Tryz.ntmps28
  go_wp2_with fail
  refine (S.out _).mono ?_
  rintro e w1 ⟨rfl, hb1⟩
  have hs1 : _ ≤ w1.heap.size := hb1.size
  try simp at hs1
  have o_qr10 : Own (w1) (w.heap.size + 1) 0 (.int .i64 0) := ownJ; obtain ⟨qr10, f_qr10⟩ := o_qr10; have o_qr11 : Own (w1) (w.heap.size + 1) 1 (.int .i64 0) := ownJ; obtain ⟨qr11, f_qr11⟩ := o_qr11
  go_wp2
  exact bodyPost_ret (v := .agg #[.int .i64 (r).1, .int .i64 (r).2]) (by simp [results, Tryz.results28, go_sem, qr10, qr11]) rfl ⟨rfl, belB⟩
theorem sCosI_any (x : Iv) (hx : Ok x) (w : World) : Calls Tryz.prog 30 #[.agg #[.int .i64 x.1, .int .i64 x.2]] w fun e w' =>
    e = .returned (.agg #[.int .i64 (sinV x 1).1, .int .i64 (sinV x 1).2]) ∧ Below w.heap.size w w' := by
  have S := Lib.hid (fun w => l06Over_any x hx 1 (by omega) (by omega) w)
  generalize sinV x 1 = r at *
  go_enter Tryz.func30, Tryz.ntmps30
  go_wp2_with fail
  refine (S.out _).mono ?_
  rintro e w1 ⟨rfl, hb1⟩
  have hs1 : _ ≤ w1.heap.size := hb1.size
  try simp at hs1
  have o_qr10 : Own (w1) (w.heap.size + 1) 0 (.int .i64 0) := ownJ; obtain ⟨qr10, f_qr10⟩ := o_qr10; have o_qr11 : Own (w1) (w.heap.size + 1) 1 (.int .i64 0) := ownJ; obtain ⟨qr11, f_qr11⟩ := o_qr11
  go_wp2
  exact bodyPost_ret (v := .agg #[.int .i64 (r).1, .int .i64 (r).2]) (by simp [results, Tryz.results30, go_sem, qr10, qr11]) rfl ⟨rfl, belB⟩
end Go.Proofs.YtnhpacaidcjaoaaGreatDoor
