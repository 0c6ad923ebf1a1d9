/- Contracts of the functions that make monotonic and odd functions. Conditions: none. A contract of monotonic functions of function values. Conditions: the function value answers by a contract; the program's interval is laid. -/
import Derived.Test.YtmikjgbojknlnaaGreatDoorExN
import Derived.Test.YtmikjgbojknlnaaGreatDoorAtZ
import Derived.Deep.RegionHeld3
import Derived.Outline
import Derived.Test.YtmikjgbojknlnaaGreatDoorExB
import Derived.Test.YtmikjgbojknlnaaGreatDoorIvB
import Derived.Test.YtmikjgbojknlnaaGreatDoorIvD
import Derived.Deep.DeepCutAuto
namespace Go.Proofs.YtmikjgbojknlnaaGreatDoor
open Go.ChangeShapes Go.WideShapes Go.ChangeAt Go.RowKit
set_option linter.unusedVariables false
set_option maxRecDepth 100000
set_option linter.unusedSimpArgs false
set_option maxHeartbeats 1000000
theorem AnyS.three {P : Program} {ops : Array Oper} {Q : Exit → Act → World → Prop} {md : Region.Mode} {S : Array Bool → World → Prop} {i j k n : Nat} {L : Array Bool} {a : Act} {w : World} (hr : Region.ready md ops L = [i, j, k])
    (h : wpOp P ops Q i (fun b u => S (L.setIfInBounds i true) u ∧ AnyS P md ops Q S n (L.setIfInBounds i true) b u) a w)
    (h' : wpOp P ops Q j (fun b u => S (L.setIfInBounds j true) u ∧ AnyS P md ops Q S n (L.setIfInBounds j true) b u) a w)
    (h'' : wpOp P ops Q k (fun b u => S (L.setIfInBounds k true) u ∧ AnyS P md ops Q S n (L.setIfInBounds k true) b u) a w) : AnyS P md ops Q S (n + 1) L a w :=
  ⟨fun e => (by rw [hr] at e; cases e), fun m hm => (by rw [hr] at hm; simp at hm; rcases hm with rfl | rfl | rfl; exact h; exact h'; exact h'')⟩
theorem monotonic_any (fn : Nat) (caps : Array Value) (w : World) : Calls Tryz.prog 99 #[.func (Fn.func fn) #[] caps] w fun e w' =>
    e = .returned (.func (Fn.func 154) #[] #[.pointer (some ⟨w.heap.size, 0, none⟩)]) ∧ w' = w.alloc (.cells #[.func (Fn.func fn) #[] caps] 62) := by
  have hmf : ∀ (fn : Fn) (first cap : Array Value) (w : World), (Instr.makeFunc fn first cap).run Tryz.prog w = .ok (.func fn first cap) w := fun _ _ _ _ => rfl
  go_enter Tryz.func99, Tryz.ntmps99
  go_wp2
  go_ret
  exact ⟨rfl, rfl⟩
theorem odd_any (fn : Nat) (caps : Array Value) (w : World) : Calls Tryz.prog 100 #[.func (Fn.func fn) #[] caps] w fun e w' =>
    e = .returned (.func (Fn.func 155) #[] #[.pointer (some ⟨w.heap.size, 0, none⟩)]) ∧ w' = w.alloc (.cells #[.func (Fn.func fn) #[] caps] 62) := by
  have hmf : ∀ (fn : Fn) (first cap : Array Value) (w : World), (Instr.makeFunc fn first cap).run Tryz.prog w = .ok (.func fn first cap) w := fun _ _ _ _ => rfl
  go_enter Tryz.func100, Tryz.ntmps100
  go_wp2
  go_ret
  exact ⟨rfl, rfl⟩
end Go.Proofs.YtmikjgbojknlnaaGreatDoor
namespace Go.Proofs.YtmikjgbojknlnaaGreatDoor
open Go.ChangeShapes Go.WideShapes Go.ChangeAt Go.RowKit
set_option linter.unusedVariables false
set_option maxRecDepth 100000
set_option linter.unusedSimpArgs false
set_option maxHeartbeats 1000000
set_option maxHeartbeats 16000000 in
theorem mono_any (fn : Nat) (caps : Array Value) (hcf : ∀ (va : Array Value) (w : World), (callFunc fn va).run Tryz.prog w = .ok (.enter fn va) w) (f : Int → Iv) (St : World → Prop) (SK : ∀ w w', St w → Below w.heap.size w w' → St w') (SD : ∀ w, St w → St w.drew) (SA : ∀ w o, St w → St (w.alloc o)) (hf : ∀ (n : Int) (w : World), FixN n → St w → Calls Tryz.prog fn (#[.int .i64 n] ++ caps) w fun e w' => e = .returned (.agg #[.int .i64 (f n).1, .int .i64 (f n).2]) ∧ Below w.heap.size w w') (x : Iv) (hx : Ok x) (b : Nat) (w : World) (hst : St w) (c0 : Own w b 0 (.func (Fn.func fn) #[] caps)) : Calls Tryz.prog 154 #[.agg #[.int .i64 x.1, .int .i64 x.2], .pointer (some ⟨b, 0, none⟩)] w fun e w' =>
    e = .returned (.agg #[.int .i64 (monI f x).1, .int .i64 (monI f x).2]) ∧ Below w.heap.size w w' := by
  have W := Lib.hid (fun w => IsWhole_any x w)
  have HF := Lib.hid hf
  have lb : b < w.heap.size := World.block_lt_of_cell? _ _ c0.1
  clear hf
  by_cases h : Bnd x
  · have HB := Lib.hid (show (!bnd x) = false by rw [bnd_yes h]; rfl)
    have E := Lib.hid (mon_yes (f := f) h)
    have fx1 : FixN x.1 := by unfold Bnd at h; unfold FixN; omega
    have fx2 : FixN x.2 := by unfold Bnd at h; unfold FixN; omega
    clear h
    go_enter Tryz.func154, Tryz.ntmps154
    go_wp2_with fail
    refine (W.out _).mono ?_
    rintro e w1 ⟨rfl, hb1⟩
    have hs1 : _ ≤ w1.heap.size := hb1.size
    try simp at hs1
    rw [HB.out]
    have o_x0 : Own (w1) (w.heap.size) 0 (.int .i64 x.1) := ownJ; have x0 := o_x0.1; have f_x0 := o_x0.2; have o_x1 : Own (w1) (w.heap.size) 1 (.int .i64 x.2) := ownJ; have x1 := o_x1.1; have f_x1 := o_x1.2
    have o_r0 : Own (w1) (w.heap.size + 1) 0 (.int .i64 0) := ownJ; have r0 := o_r0.1; have f_r0 := o_r0.2; have o_r1 : Own (w1) (w.heap.size + 1) 1 (.int .i64 0) := ownJ; have r1 := o_r1.1; have f_r1 := o_r1.2
    have o_b0 : Own w1 b 0 (.func (Fn.func fn) #[] caps) := own_kept hb1 (own_alloc (own_alloc c0))
    have bw1 : Below w.heap.size w w1 := belB
    have st1 : St w1 := SK _ _ (SA _ _ (SA _ _ hst)) hb1
    have s1 := bw1.size
    clear hb1 hs1
    go_upto_region 3 with fail
    go_cut [4, 5] (fun s4 s5 wx => ∃ h4 h5 : Nat, s4 = .pointer (some ⟨h4, 0, none⟩) ∧ s5 = .pointer (some ⟨h5, 0, none⟩) ∧ Own wx h4 0 (.int .i64 (f x.1).1) ∧ Own wx h4 1 (.int .i64 (f x.1).2) ∧ Own wx h5 0 (.int .i64 (f x.2).1) ∧ Own wx h5 1 (.int .i64 (f x.2).2) ∧ w.heap.size + 1 < h4 ∧ w.heap.size + 1 < h5 ∧ Own wx (w.heap.size + 1) 0 (.int .i64 0) ∧ Own wx (w.heap.size + 1) 1 (.int .i64 0) ∧ Below w.heap.size w wx)
    case first =>
      refine AnyS.region (S := StayS (fun u => u.cell? ⟨b, 0, none⟩ = some (.func (Fn.func fn) #[] caps) ∧ u.cell? ⟨w.heap.size, 0, none⟩ = some (.int .i64 x.1) ∧ u.cell? ⟨w.heap.size, 1, none⟩ = some (.int .i64 x.2))) (by kernel_rfl) (show AnyS _ _ _ _ _ 12 _ _ _ from ?_)
      obtain ⟨wd, hwd⟩ : ∃ x, x = w1.drew := ⟨_, rfl⟩
      rw [← hwd]
      have o_b0_d : Own wd b 0 (.func (Fn.func fn) #[] caps) := by rw [hwd]; exact own_drew o_b0
      have o_x0_d : Own wd w.heap.size 0 (.int .i64 x.1) := by rw [hwd]; exact own_drew o_x0
      have o_x1_d : Own wd w.heap.size 1 (.int .i64 x.2) := by rw [hwd]; exact own_drew o_x1
      have o_r0_d : Own wd (w.heap.size + 1) 0 (.int .i64 0) := by rw [hwd]; exact own_drew o_r0
      have o_r1_d : Own wd (w.heap.size + 1) 1 (.int .i64 0) := by rw [hwd]; exact own_drew o_r1
      have st_d : St wd := by rw [hwd]; exact SD _ st1
      have bwd : Below w.heap.size w wd := by rw [hwd]; exact belB
      clear hwd
      refine AnyS.take (i := 0) (v := .func (Fn.func fn) #[] caps) (T := fun u => u.cell? ⟨b, 0, none⟩ = some (.func (Fn.func fn) #[] caps) ∧ u.cell? ⟨w.heap.size, 0, none⟩ = some (.int .i64 x.1) ∧ u.cell? ⟨w.heap.size, 1, none⟩ = some (.int .i64 x.2)) [] rfl (by kernel_rfl) (by kernel_rfl) (by kernel_rfl) (by kernel_rfl) (by kernel_rfl) (fun _ _ _ h => h) (fun L u q s => s) (fun L u s => s) (Or.inl ⟨by rfl, ?_⟩) (StayS.mk ⟨o_b0_d.1, o_x0_d.1, o_x1_d.1⟩) ?_
      · intro u hu
        obtain ⟨u0, u1, u2⟩ := hu
        go_simp
      try simp only [Act.put, List.setIfInBounds_toArray, List.set_cons_zero, List.set_cons_succ]
      refine AnyS.take (i := 1) (v := .pointer (some ⟨w.heap.size, 0, none⟩)) (T := fun _ => True) [] rfl (by kernel_rfl) (by kernel_rfl) (by kernel_rfl) (by kernel_rfl) (by kernel_rfl) (fun _ _ _ h => h) (fun L u q s => trivial) (fun L u s => s) (Or.inl ⟨by rfl, ?_⟩) (StayS.mk ⟨o_b0_d.1, o_x0_d.1, o_x1_d.1⟩) ?_
      · intro u hu
        clear hu
        go_simp
      try simp only [Act.put, List.setIfInBounds_toArray, List.set_cons_zero, List.set_cons_succ]
      refine AnyS.take (i := 2) (v := .int .i64 x.1) (T := fun u => u.cell? ⟨b, 0, none⟩ = some (.func (Fn.func fn) #[] caps) ∧ u.cell? ⟨w.heap.size, 0, none⟩ = some (.int .i64 x.1) ∧ u.cell? ⟨w.heap.size, 1, none⟩ = some (.int .i64 x.2)) [] rfl (by kernel_rfl) (by kernel_rfl) (by kernel_rfl) (by kernel_rfl) (by kernel_rfl) (fun _ _ _ h => h) (fun L u q s => s) (fun L u s => s) (Or.inl ⟨by rfl, ?_⟩) (StayS.mk ⟨o_b0_d.1, o_x0_d.1, o_x1_d.1⟩) ?_
      · intro u hu
        obtain ⟨u0, u1, u2⟩ := hu
        go_simp
      try simp only [Act.put, List.setIfInBounds_toArray, List.set_cons_zero, List.set_cons_succ]
      refine AnyS.take (i := 4) (v := .func (Fn.func fn) #[] caps) (T := fun u => u.cell? ⟨b, 0, none⟩ = some (.func (Fn.func fn) #[] caps) ∧ u.cell? ⟨w.heap.size, 0, none⟩ = some (.int .i64 x.1) ∧ u.cell? ⟨w.heap.size, 1, none⟩ = some (.int .i64 x.2)) [] rfl (by kernel_rfl) (by kernel_rfl) (by kernel_rfl) (by kernel_rfl) (by kernel_rfl) (fun _ _ _ h => h) (fun L u q s => s) (fun L u s => s) (Or.inl ⟨by rfl, ?_⟩) (StayS.mk ⟨o_b0_d.1, o_x0_d.1, o_x1_d.1⟩) ?_
      · intro u hu
        obtain ⟨u0, u1, u2⟩ := hu
        go_simp
      try simp only [Act.put, List.setIfInBounds_toArray, List.set_cons_zero, List.set_cons_succ]
      refine AnyS.take (i := 5) (v := .pointer (some ⟨w.heap.size, 1, none⟩)) (T := fun _ => True) [] rfl (by kernel_rfl) (by kernel_rfl) (by kernel_rfl) (by kernel_rfl) (by kernel_rfl) (fun _ _ _ h => h) (fun L u q s => trivial) (fun L u s => s) (Or.inl ⟨by rfl, ?_⟩) (StayS.mk ⟨o_b0_d.1, o_x0_d.1, o_x1_d.1⟩) ?_
      · intro u hu
        clear hu
        go_simp
      try simp only [Act.put, List.setIfInBounds_toArray, List.set_cons_zero, List.set_cons_succ]
      refine AnyS.take (i := 6) (v := .int .i64 x.2) (T := fun u => u.cell? ⟨b, 0, none⟩ = some (.func (Fn.func fn) #[] caps) ∧ u.cell? ⟨w.heap.size, 0, none⟩ = some (.int .i64 x.1) ∧ u.cell? ⟨w.heap.size, 1, none⟩ = some (.int .i64 x.2)) [] rfl (by kernel_rfl) (by kernel_rfl) (by kernel_rfl) (by kernel_rfl) (by kernel_rfl) (fun _ _ _ h => h) (fun L u q s => s) (fun L u s => s) (Or.inl ⟨by rfl, ?_⟩) (StayS.mk ⟨o_b0_d.1, o_x0_d.1, o_x1_d.1⟩) ?_
      · intro u hu
        obtain ⟨u0, u1, u2⟩ := hu
        go_simp
      try simp only [Act.put, List.setIfInBounds_toArray, List.set_cons_zero, List.set_cons_succ]
      refine AnyS.three (i := 3) (j := 8) (k := 9) (by kernel_rfl) (AnyS.comes rfl (fun K hK => ?_)) (AnyS.comes rfl (fun K hK => ?_)) (AnyS.comes rfl (fun K hK => ?_))
      · go_simp
        refine (HF.out x.1 wd fx1 st_d).mono ?_
        rintro e wn1 ⟨rfl, hbn1⟩
        have o_b0_n1 : Own wn1 b 0 (.func (Fn.func fn) #[] caps) := own_kept hbn1 o_b0_d
        have o_x0_n1 : Own wn1 w.heap.size 0 (.int .i64 x.1) := own_kept hbn1 o_x0_d
        have o_x1_n1 : Own wn1 w.heap.size 1 (.int .i64 x.2) := own_kept hbn1 o_x1_d
        have o_r0_n1 : Own wn1 (w.heap.size + 1) 0 (.int .i64 0) := own_kept hbn1 o_r0_d
        have o_r1_n1 : Own wn1 (w.heap.size + 1) 1 (.int .i64 0) := own_kept hbn1 o_r1_d
        have st_n1 : St wn1 := SK _ _ st_d hbn1
        have bwn1 : Below w.heap.size w wn1 := bwd.trans (hbn1.mono bwd.size)
        clear hbn1
        go_wp2_with fail
        refine hK.out _ _ (StayS.mk ⟨o_b0_n1.1, o_x0_n1.1, o_x1_n1.1⟩) ?_
        clear hK K
        try simp only [Act.put, List.setIfInBounds_toArray, List.set_cons_zero, List.set_cons_succ]
        refine AnyS.three (i := 7) (j := 8) (k := 9) (by kernel_rfl) (AnyS.comes rfl (fun K hK => ?_)) (AnyS.comes rfl (fun K hK => ?_)) (AnyS.comes rfl (fun K hK => ?_))
        · go_simp
          refine (HF.out x.2 wn1 fx2 st_n1).mono ?_
          rintro e wn2 ⟨rfl, hbn2⟩
          have o_b0_n2 : Own wn2 b 0 (.func (Fn.func fn) #[] caps) := own_kept hbn2 o_b0_n1
          have o_x0_n2 : Own wn2 w.heap.size 0 (.int .i64 x.1) := own_kept hbn2 o_x0_n1
          have o_x1_n2 : Own wn2 w.heap.size 1 (.int .i64 x.2) := own_kept hbn2 o_x1_n1
          have o_r0_n2 : Own wn2 (w.heap.size + 1) 0 (.int .i64 0) := own_kept hbn2 o_r0_n1
          have o_r1_n2 : Own wn2 (w.heap.size + 1) 1 (.int .i64 0) := own_kept hbn2 o_r1_n1
          have st_n2 : St wn2 := SK _ _ st_n1 hbn2
          have bwn2 : Below w.heap.size w wn2 := bwn1.trans (hbn2.mono bwn1.size)
          clear hbn2
          go_wp2_with fail
          refine hK.out _ _ (StayS.mk ⟨o_b0_n2.1, o_x0_n2.1, o_x1_n2.1⟩) ?_
          clear hK K
          try simp only [Act.put, List.setIfInBounds_toArray, List.set_cons_zero, List.set_cons_succ]
          refine AnyS.two (i := 8) (j := 9) (by kernel_rfl) (AnyS.comes rfl (fun K hK => ?_)) (AnyS.comes rfl (fun K hK => ?_))
          · go_simp
            obtain ⟨h4, hh⟩ : ∃ h, h = wn2.heap.size := ⟨_, rfl⟩
            obtain ⟨wn3, ha⟩ : ∃ x, x = wn2.alloc (.cells #[.int .i64 0, .int .i64 0] 26) := ⟨_, rfl⟩
            rw [← ha]
            have o_h40_n3 : Own wn3 h4 0 (.int .i64 0) := by rw [ha, hh]; exact ⟨by simp [go_sem], by simp [go_sem]⟩
            have o_h41_n3 : Own wn3 h4 1 (.int .i64 0) := by rw [ha, hh]; exact ⟨by simp [go_sem], by simp [go_sem]⟩
            have o_b0_n3 : Own wn3 b 0 (.func (Fn.func fn) #[] caps) := by rw [ha]; exact own_alloc o_b0_n2
            have o_x0_n3 : Own wn3 w.heap.size 0 (.int .i64 x.1) := by rw [ha]; exact own_alloc o_x0_n2
            have o_x1_n3 : Own wn3 w.heap.size 1 (.int .i64 x.2) := by rw [ha]; exact own_alloc o_x1_n2
            have o_r0_n3 : Own wn3 (w.heap.size + 1) 0 (.int .i64 0) := by rw [ha]; exact own_alloc o_r0_n2
            have o_r1_n3 : Own wn3 (w.heap.size + 1) 1 (.int .i64 0) := by rw [ha]; exact own_alloc o_r1_n2
            have st_n3 : St wn3 := by rw [ha]; exact SA _ _ st_n2
            have lh4_b : b < h4 := by rw [hh]; exact World.block_lt_of_cell? _ _ o_b0_n2.1
            have lh4_x : w.heap.size < h4 := by rw [hh]; exact World.block_lt_of_cell? _ _ o_x0_n2.1
            have lh4_r : (w.heap.size + 1) < h4 := by rw [hh]; exact World.block_lt_of_cell? _ _ o_r0_n2.1
            have bwn3 : Below w.heap.size w wn3 := by rw [ha]; exact bwn2.alloc bwn2.size _
            try rw [← hh]
            clear ha hh
            refine hK.out _ _ (StayS.mk ⟨o_b0_n3.1, o_x0_n3.1, o_x1_n3.1⟩) ?_
            clear hK K
            try simp only [Act.put, List.setIfInBounds_toArray, List.set_cons_zero, List.set_cons_succ]
            refine AnyS.one (i := 9) (by kernel_rfl) (AnyS.comes rfl (fun K hK => ?_))
            go_simp
            obtain ⟨h5, hh⟩ : ∃ h, h = wn3.heap.size := ⟨_, rfl⟩
            obtain ⟨wn4, ha⟩ : ∃ x, x = wn3.alloc (.cells #[.int .i64 0, .int .i64 0] 26) := ⟨_, rfl⟩
            rw [← ha]
            have o_h50_n4 : Own wn4 h5 0 (.int .i64 0) := by rw [ha, hh]; exact ⟨by simp [go_sem], by simp [go_sem]⟩
            have o_h51_n4 : Own wn4 h5 1 (.int .i64 0) := by rw [ha, hh]; exact ⟨by simp [go_sem], by simp [go_sem]⟩
            have o_b0_n4 : Own wn4 b 0 (.func (Fn.func fn) #[] caps) := by rw [ha]; exact own_alloc o_b0_n3
            have o_x0_n4 : Own wn4 w.heap.size 0 (.int .i64 x.1) := by rw [ha]; exact own_alloc o_x0_n3
            have o_x1_n4 : Own wn4 w.heap.size 1 (.int .i64 x.2) := by rw [ha]; exact own_alloc o_x1_n3
            have o_r0_n4 : Own wn4 (w.heap.size + 1) 0 (.int .i64 0) := by rw [ha]; exact own_alloc o_r0_n3
            have o_r1_n4 : Own wn4 (w.heap.size + 1) 1 (.int .i64 0) := by rw [ha]; exact own_alloc o_r1_n3
            have o_h40_n4 : Own wn4 h4 0 (.int .i64 0) := by rw [ha]; exact own_alloc o_h40_n3
            have o_h41_n4 : Own wn4 h4 1 (.int .i64 0) := by rw [ha]; exact own_alloc o_h41_n3
            have st_n4 : St wn4 := by rw [ha]; exact SA _ _ st_n3
            have lh5_b : b < h5 := by rw [hh]; exact World.block_lt_of_cell? _ _ o_b0_n3.1
            have lh5_x : w.heap.size < h5 := by rw [hh]; exact World.block_lt_of_cell? _ _ o_x0_n3.1
            have lh5_r : (w.heap.size + 1) < h5 := by rw [hh]; exact World.block_lt_of_cell? _ _ o_r0_n3.1
            have lh5_h4 : h4 < h5 := by rw [hh]; exact World.block_lt_of_cell? _ _ o_h40_n3.1
            have bwn4 : Below w.heap.size w wn4 := by rw [ha]; exact bwn3.alloc bwn3.size _
            try rw [← hh]
            clear ha hh
            refine hK.out _ _ (StayS.mk ⟨o_b0_n4.1, o_x0_n4.1, o_x1_n4.1⟩) ?_
            clear hK K
            try simp only [Act.put, List.setIfInBounds_toArray, List.set_cons_zero, List.set_cons_succ]
            have cH0 := (o_h40_n4).1
            have fH0 := (o_h40_n4).2
            have cH1 := (o_h41_n4).1
            have fH1 := (o_h41_n4).2
            refine AnyS.one (i := 10) (by kernel_rfl) (AnyS.comes rfl (fun K hK => ?_))
            go_simp
            have o_b0_s0 : Own ((wn4.setCell ⟨h4, 0, none⟩ (.int .i64 (f x.1).1)).setCell ⟨h4, 1, none⟩ (.int .i64 (f x.1).2)) b 0 (.func (Fn.func fn) #[] caps) := own_far (by dsimp only; omega) (own_far (by dsimp only; omega) o_b0_n4)
            have o_x0_s0 : Own ((wn4.setCell ⟨h4, 0, none⟩ (.int .i64 (f x.1).1)).setCell ⟨h4, 1, none⟩ (.int .i64 (f x.1).2)) w.heap.size 0 (.int .i64 x.1) := own_far (by dsimp only; omega) (own_far (by dsimp only; omega) o_x0_n4)
            have o_x1_s0 : Own ((wn4.setCell ⟨h4, 0, none⟩ (.int .i64 (f x.1).1)).setCell ⟨h4, 1, none⟩ (.int .i64 (f x.1).2)) w.heap.size 1 (.int .i64 x.2) := own_far (by dsimp only; omega) (own_far (by dsimp only; omega) o_x1_n4)
            have o_r0_s0 : Own ((wn4.setCell ⟨h4, 0, none⟩ (.int .i64 (f x.1).1)).setCell ⟨h4, 1, none⟩ (.int .i64 (f x.1).2)) (w.heap.size + 1) 0 (.int .i64 0) := own_far (by dsimp only; omega) (own_far (by dsimp only; omega) o_r0_n4)
            have o_r1_s0 : Own ((wn4.setCell ⟨h4, 0, none⟩ (.int .i64 (f x.1).1)).setCell ⟨h4, 1, none⟩ (.int .i64 (f x.1).2)) (w.heap.size + 1) 1 (.int .i64 0) := own_far (by dsimp only; omega) (own_far (by dsimp only; omega) o_r1_n4)
            have o_h40_s0 : Own ((wn4.setCell ⟨h4, 0, none⟩ (.int .i64 (f x.1).1)).setCell ⟨h4, 1, none⟩ (.int .i64 (f x.1).2)) h4 0 (.int .i64 (f x.1).1) := own_next (by decide) (own_put o_h40_n4)
            have o_h41_s0 : Own ((wn4.setCell ⟨h4, 0, none⟩ (.int .i64 (f x.1).1)).setCell ⟨h4, 1, none⟩ (.int .i64 (f x.1).2)) h4 1 (.int .i64 (f x.1).2) := own_put (own_next (by decide) o_h41_n4)
            have o_h50_s0 : Own ((wn4.setCell ⟨h4, 0, none⟩ (.int .i64 (f x.1).1)).setCell ⟨h4, 1, none⟩ (.int .i64 (f x.1).2)) h5 0 (.int .i64 0) := own_far (by dsimp only; omega) (own_far (by dsimp only; omega) o_h50_n4)
            have o_h51_s0 : Own ((wn4.setCell ⟨h4, 0, none⟩ (.int .i64 (f x.1).1)).setCell ⟨h4, 1, none⟩ (.int .i64 (f x.1).2)) h5 1 (.int .i64 0) := own_far (by dsimp only; omega) (own_far (by dsimp only; omega) o_h51_n4)
            refine hK.out _ _ (StayS.mk ⟨o_b0_s0.1, o_x0_s0.1, o_x1_s0.1⟩) ?_
            clear hK K cH0 fH0 cH1 fH1
            try simp only [Act.put, List.setIfInBounds_toArray, List.set_cons_zero, List.set_cons_succ]
            have cH0 := (o_h50_s0).1
            have fH0 := (o_h50_s0).2
            have cH1 := (o_h51_s0).1
            have fH1 := (o_h51_s0).2
            refine AnyS.one (i := 11) (by kernel_rfl) (AnyS.comes rfl (fun K hK => ?_))
            go_simp
            have o_b0_s1 : Own ((((wn4.setCell ⟨h4, 0, none⟩ (.int .i64 (f x.1).1)).setCell ⟨h4, 1, none⟩ (.int .i64 (f x.1).2)).setCell ⟨h5, 0, none⟩ (.int .i64 (f x.2).1)).setCell ⟨h5, 1, none⟩ (.int .i64 (f x.2).2)) b 0 (.func (Fn.func fn) #[] caps) := own_far (by dsimp only; omega) (own_far (by dsimp only; omega) o_b0_s0)
            have o_x0_s1 : Own ((((wn4.setCell ⟨h4, 0, none⟩ (.int .i64 (f x.1).1)).setCell ⟨h4, 1, none⟩ (.int .i64 (f x.1).2)).setCell ⟨h5, 0, none⟩ (.int .i64 (f x.2).1)).setCell ⟨h5, 1, none⟩ (.int .i64 (f x.2).2)) w.heap.size 0 (.int .i64 x.1) := own_far (by dsimp only; omega) (own_far (by dsimp only; omega) o_x0_s0)
            have o_x1_s1 : Own ((((wn4.setCell ⟨h4, 0, none⟩ (.int .i64 (f x.1).1)).setCell ⟨h4, 1, none⟩ (.int .i64 (f x.1).2)).setCell ⟨h5, 0, none⟩ (.int .i64 (f x.2).1)).setCell ⟨h5, 1, none⟩ (.int .i64 (f x.2).2)) w.heap.size 1 (.int .i64 x.2) := own_far (by dsimp only; omega) (own_far (by dsimp only; omega) o_x1_s0)
            have o_r0_s1 : Own ((((wn4.setCell ⟨h4, 0, none⟩ (.int .i64 (f x.1).1)).setCell ⟨h4, 1, none⟩ (.int .i64 (f x.1).2)).setCell ⟨h5, 0, none⟩ (.int .i64 (f x.2).1)).setCell ⟨h5, 1, none⟩ (.int .i64 (f x.2).2)) (w.heap.size + 1) 0 (.int .i64 0) := own_far (by dsimp only; omega) (own_far (by dsimp only; omega) o_r0_s0)
            have o_r1_s1 : Own ((((wn4.setCell ⟨h4, 0, none⟩ (.int .i64 (f x.1).1)).setCell ⟨h4, 1, none⟩ (.int .i64 (f x.1).2)).setCell ⟨h5, 0, none⟩ (.int .i64 (f x.2).1)).setCell ⟨h5, 1, none⟩ (.int .i64 (f x.2).2)) (w.heap.size + 1) 1 (.int .i64 0) := own_far (by dsimp only; omega) (own_far (by dsimp only; omega) o_r1_s0)
            have o_h40_s1 : Own ((((wn4.setCell ⟨h4, 0, none⟩ (.int .i64 (f x.1).1)).setCell ⟨h4, 1, none⟩ (.int .i64 (f x.1).2)).setCell ⟨h5, 0, none⟩ (.int .i64 (f x.2).1)).setCell ⟨h5, 1, none⟩ (.int .i64 (f x.2).2)) h4 0 (.int .i64 (f x.1).1) := own_far (by dsimp only; omega) (own_far (by dsimp only; omega) o_h40_s0)
            have o_h41_s1 : Own ((((wn4.setCell ⟨h4, 0, none⟩ (.int .i64 (f x.1).1)).setCell ⟨h4, 1, none⟩ (.int .i64 (f x.1).2)).setCell ⟨h5, 0, none⟩ (.int .i64 (f x.2).1)).setCell ⟨h5, 1, none⟩ (.int .i64 (f x.2).2)) h4 1 (.int .i64 (f x.1).2) := own_far (by dsimp only; omega) (own_far (by dsimp only; omega) o_h41_s0)
            have o_h50_s1 : Own ((((wn4.setCell ⟨h4, 0, none⟩ (.int .i64 (f x.1).1)).setCell ⟨h4, 1, none⟩ (.int .i64 (f x.1).2)).setCell ⟨h5, 0, none⟩ (.int .i64 (f x.2).1)).setCell ⟨h5, 1, none⟩ (.int .i64 (f x.2).2)) h5 0 (.int .i64 (f x.2).1) := own_next (by decide) (own_put o_h50_s0)
            have o_h51_s1 : Own ((((wn4.setCell ⟨h4, 0, none⟩ (.int .i64 (f x.1).1)).setCell ⟨h4, 1, none⟩ (.int .i64 (f x.1).2)).setCell ⟨h5, 0, none⟩ (.int .i64 (f x.2).1)).setCell ⟨h5, 1, none⟩ (.int .i64 (f x.2).2)) h5 1 (.int .i64 (f x.2).2) := own_put (own_next (by decide) o_h51_s0)
            refine hK.out _ _ (StayS.mk ⟨o_b0_s1.1, o_x0_s1.1, o_x1_s1.1⟩) ?_
            clear hK K cH0 fH0 cH1 fH1
            try simp only [Act.put, List.setIfInBounds_toArray, List.set_cons_zero, List.set_cons_succ]
            refine AnyS.done (by kernel_rfl) ?_ _
            go_wp2_with fail
            go_meet
            exact ⟨h4, h5, rfl, rfl, o_h40_s1, o_h41_s1, o_h50_s1, o_h51_s1, by omega, by omega, o_r0_s1, o_r1_s1, belB⟩
          · go_simp
            obtain ⟨h5, hh⟩ : ∃ h, h = wn2.heap.size := ⟨_, rfl⟩
            obtain ⟨wn5, ha⟩ : ∃ x, x = wn2.alloc (.cells #[.int .i64 0, .int .i64 0] 26) := ⟨_, rfl⟩
            rw [← ha]
            have o_h50_n5 : Own wn5 h5 0 (.int .i64 0) := by rw [ha, hh]; exact ⟨by simp [go_sem], by simp [go_sem]⟩
            have o_h51_n5 : Own wn5 h5 1 (.int .i64 0) := by rw [ha, hh]; exact ⟨by simp [go_sem], by simp [go_sem]⟩
            have o_b0_n5 : Own wn5 b 0 (.func (Fn.func fn) #[] caps) := by rw [ha]; exact own_alloc o_b0_n2
            have o_x0_n5 : Own wn5 w.heap.size 0 (.int .i64 x.1) := by rw [ha]; exact own_alloc o_x0_n2
            have o_x1_n5 : Own wn5 w.heap.size 1 (.int .i64 x.2) := by rw [ha]; exact own_alloc o_x1_n2
            have o_r0_n5 : Own wn5 (w.heap.size + 1) 0 (.int .i64 0) := by rw [ha]; exact own_alloc o_r0_n2
            have o_r1_n5 : Own wn5 (w.heap.size + 1) 1 (.int .i64 0) := by rw [ha]; exact own_alloc o_r1_n2
            have st_n5 : St wn5 := by rw [ha]; exact SA _ _ st_n2
            have lh5_b : b < h5 := by rw [hh]; exact World.block_lt_of_cell? _ _ o_b0_n2.1
            have lh5_x : w.heap.size < h5 := by rw [hh]; exact World.block_lt_of_cell? _ _ o_x0_n2.1
            have lh5_r : (w.heap.size + 1) < h5 := by rw [hh]; exact World.block_lt_of_cell? _ _ o_r0_n2.1
            have bwn5 : Below w.heap.size w wn5 := by rw [ha]; exact bwn2.alloc bwn2.size _
            try rw [← hh]
            clear ha hh
            refine hK.out _ _ (StayS.mk ⟨o_b0_n5.1, o_x0_n5.1, o_x1_n5.1⟩) ?_
            clear hK K
            try simp only [Act.put, List.setIfInBounds_toArray, List.set_cons_zero, List.set_cons_succ]
            refine AnyS.one (i := 8) (by kernel_rfl) (AnyS.comes rfl (fun K hK => ?_))
            go_simp
            obtain ⟨h4, hh⟩ : ∃ h, h = wn5.heap.size := ⟨_, rfl⟩
            obtain ⟨wn6, ha⟩ : ∃ x, x = wn5.alloc (.cells #[.int .i64 0, .int .i64 0] 26) := ⟨_, rfl⟩
            rw [← ha]
            have o_h40_n6 : Own wn6 h4 0 (.int .i64 0) := by rw [ha, hh]; exact ⟨by simp [go_sem], by simp [go_sem]⟩
            have o_h41_n6 : Own wn6 h4 1 (.int .i64 0) := by rw [ha, hh]; exact ⟨by simp [go_sem], by simp [go_sem]⟩
            have o_b0_n6 : Own wn6 b 0 (.func (Fn.func fn) #[] caps) := by rw [ha]; exact own_alloc o_b0_n5
            have o_x0_n6 : Own wn6 w.heap.size 0 (.int .i64 x.1) := by rw [ha]; exact own_alloc o_x0_n5
            have o_x1_n6 : Own wn6 w.heap.size 1 (.int .i64 x.2) := by rw [ha]; exact own_alloc o_x1_n5
            have o_r0_n6 : Own wn6 (w.heap.size + 1) 0 (.int .i64 0) := by rw [ha]; exact own_alloc o_r0_n5
            have o_r1_n6 : Own wn6 (w.heap.size + 1) 1 (.int .i64 0) := by rw [ha]; exact own_alloc o_r1_n5
            have o_h50_n6 : Own wn6 h5 0 (.int .i64 0) := by rw [ha]; exact own_alloc o_h50_n5
            have o_h51_n6 : Own wn6 h5 1 (.int .i64 0) := by rw [ha]; exact own_alloc o_h51_n5
            have st_n6 : St wn6 := by rw [ha]; exact SA _ _ st_n5
            have lh4_b : b < h4 := by rw [hh]; exact World.block_lt_of_cell? _ _ o_b0_n5.1
            have lh4_x : w.heap.size < h4 := by rw [hh]; exact World.block_lt_of_cell? _ _ o_x0_n5.1
            have lh4_r : (w.heap.size + 1) < h4 := by rw [hh]; exact World.block_lt_of_cell? _ _ o_r0_n5.1
            have lh4_h5 : h5 < h4 := by rw [hh]; exact World.block_lt_of_cell? _ _ o_h50_n5.1
            have bwn6 : Below w.heap.size w wn6 := by rw [ha]; exact bwn5.alloc bwn5.size _
            try rw [← hh]
            clear ha hh
            refine hK.out _ _ (StayS.mk ⟨o_b0_n6.1, o_x0_n6.1, o_x1_n6.1⟩) ?_
            clear hK K
            try simp only [Act.put, List.setIfInBounds_toArray, List.set_cons_zero, List.set_cons_succ]
            have cH0 := (o_h40_n6).1
            have fH0 := (o_h40_n6).2
            have cH1 := (o_h41_n6).1
            have fH1 := (o_h41_n6).2
            refine AnyS.one (i := 10) (by kernel_rfl) (AnyS.comes rfl (fun K hK => ?_))
            go_simp
            have o_b0_s0 : Own ((wn6.setCell ⟨h4, 0, none⟩ (.int .i64 (f x.1).1)).setCell ⟨h4, 1, none⟩ (.int .i64 (f x.1).2)) b 0 (.func (Fn.func fn) #[] caps) := own_far (by dsimp only; omega) (own_far (by dsimp only; omega) o_b0_n6)
            have o_x0_s0 : Own ((wn6.setCell ⟨h4, 0, none⟩ (.int .i64 (f x.1).1)).setCell ⟨h4, 1, none⟩ (.int .i64 (f x.1).2)) w.heap.size 0 (.int .i64 x.1) := own_far (by dsimp only; omega) (own_far (by dsimp only; omega) o_x0_n6)
            have o_x1_s0 : Own ((wn6.setCell ⟨h4, 0, none⟩ (.int .i64 (f x.1).1)).setCell ⟨h4, 1, none⟩ (.int .i64 (f x.1).2)) w.heap.size 1 (.int .i64 x.2) := own_far (by dsimp only; omega) (own_far (by dsimp only; omega) o_x1_n6)
            have o_r0_s0 : Own ((wn6.setCell ⟨h4, 0, none⟩ (.int .i64 (f x.1).1)).setCell ⟨h4, 1, none⟩ (.int .i64 (f x.1).2)) (w.heap.size + 1) 0 (.int .i64 0) := own_far (by dsimp only; omega) (own_far (by dsimp only; omega) o_r0_n6)
            have o_r1_s0 : Own ((wn6.setCell ⟨h4, 0, none⟩ (.int .i64 (f x.1).1)).setCell ⟨h4, 1, none⟩ (.int .i64 (f x.1).2)) (w.heap.size + 1) 1 (.int .i64 0) := own_far (by dsimp only; omega) (own_far (by dsimp only; omega) o_r1_n6)
            have o_h50_s0 : Own ((wn6.setCell ⟨h4, 0, none⟩ (.int .i64 (f x.1).1)).setCell ⟨h4, 1, none⟩ (.int .i64 (f x.1).2)) h5 0 (.int .i64 0) := own_far (by dsimp only; omega) (own_far (by dsimp only; omega) o_h50_n6)
            have o_h51_s0 : Own ((wn6.setCell ⟨h4, 0, none⟩ (.int .i64 (f x.1).1)).setCell ⟨h4, 1, none⟩ (.int .i64 (f x.1).2)) h5 1 (.int .i64 0) := own_far (by dsimp only; omega) (own_far (by dsimp only; omega) o_h51_n6)
            have o_h40_s0 : Own ((wn6.setCell ⟨h4, 0, none⟩ (.int .i64 (f x.1).1)).setCell ⟨h4, 1, none⟩ (.int .i64 (f x.1).2)) h4 0 (.int .i64 (f x.1).1) := own_next (by decide) (own_put o_h40_n6)
            have o_h41_s0 : Own ((wn6.setCell ⟨h4, 0, none⟩ (.int .i64 (f x.1).1)).setCell ⟨h4, 1, none⟩ (.int .i64 (f x.1).2)) h4 1 (.int .i64 (f x.1).2) := own_put (own_next (by decide) o_h41_n6)
            refine hK.out _ _ (StayS.mk ⟨o_b0_s0.1, o_x0_s0.1, o_x1_s0.1⟩) ?_
            clear hK K cH0 fH0 cH1 fH1
            try simp only [Act.put, List.setIfInBounds_toArray, List.set_cons_zero, List.set_cons_succ]
            have cH0 := (o_h50_s0).1
            have fH0 := (o_h50_s0).2
            have cH1 := (o_h51_s0).1
            have fH1 := (o_h51_s0).2
            refine AnyS.one (i := 11) (by kernel_rfl) (AnyS.comes rfl (fun K hK => ?_))
            go_simp
            have o_b0_s1 : Own ((((wn6.setCell ⟨h4, 0, none⟩ (.int .i64 (f x.1).1)).setCell ⟨h4, 1, none⟩ (.int .i64 (f x.1).2)).setCell ⟨h5, 0, none⟩ (.int .i64 (f x.2).1)).setCell ⟨h5, 1, none⟩ (.int .i64 (f x.2).2)) b 0 (.func (Fn.func fn) #[] caps) := own_far (by dsimp only; omega) (own_far (by dsimp only; omega) o_b0_s0)
            have o_x0_s1 : Own ((((wn6.setCell ⟨h4, 0, none⟩ (.int .i64 (f x.1).1)).setCell ⟨h4, 1, none⟩ (.int .i64 (f x.1).2)).setCell ⟨h5, 0, none⟩ (.int .i64 (f x.2).1)).setCell ⟨h5, 1, none⟩ (.int .i64 (f x.2).2)) w.heap.size 0 (.int .i64 x.1) := own_far (by dsimp only; omega) (own_far (by dsimp only; omega) o_x0_s0)
            have o_x1_s1 : Own ((((wn6.setCell ⟨h4, 0, none⟩ (.int .i64 (f x.1).1)).setCell ⟨h4, 1, none⟩ (.int .i64 (f x.1).2)).setCell ⟨h5, 0, none⟩ (.int .i64 (f x.2).1)).setCell ⟨h5, 1, none⟩ (.int .i64 (f x.2).2)) w.heap.size 1 (.int .i64 x.2) := own_far (by dsimp only; omega) (own_far (by dsimp only; omega) o_x1_s0)
            have o_r0_s1 : Own ((((wn6.setCell ⟨h4, 0, none⟩ (.int .i64 (f x.1).1)).setCell ⟨h4, 1, none⟩ (.int .i64 (f x.1).2)).setCell ⟨h5, 0, none⟩ (.int .i64 (f x.2).1)).setCell ⟨h5, 1, none⟩ (.int .i64 (f x.2).2)) (w.heap.size + 1) 0 (.int .i64 0) := own_far (by dsimp only; omega) (own_far (by dsimp only; omega) o_r0_s0)
            have o_r1_s1 : Own ((((wn6.setCell ⟨h4, 0, none⟩ (.int .i64 (f x.1).1)).setCell ⟨h4, 1, none⟩ (.int .i64 (f x.1).2)).setCell ⟨h5, 0, none⟩ (.int .i64 (f x.2).1)).setCell ⟨h5, 1, none⟩ (.int .i64 (f x.2).2)) (w.heap.size + 1) 1 (.int .i64 0) := own_far (by dsimp only; omega) (own_far (by dsimp only; omega) o_r1_s0)
            have o_h50_s1 : Own ((((wn6.setCell ⟨h4, 0, none⟩ (.int .i64 (f x.1).1)).setCell ⟨h4, 1, none⟩ (.int .i64 (f x.1).2)).setCell ⟨h5, 0, none⟩ (.int .i64 (f x.2).1)).setCell ⟨h5, 1, none⟩ (.int .i64 (f x.2).2)) h5 0 (.int .i64 (f x.2).1) := own_next (by decide) (own_put o_h50_s0)
            have o_h51_s1 : Own ((((wn6.setCell ⟨h4, 0, none⟩ (.int .i64 (f x.1).1)).setCell ⟨h4, 1, none⟩ (.int .i64 (f x.1).2)).setCell ⟨h5, 0, none⟩ (.int .i64 (f x.2).1)).setCell ⟨h5, 1, none⟩ (.int .i64 (f x.2).2)) h5 1 (.int .i64 (f x.2).2) := own_put (own_next (by decide) o_h51_s0)
            have o_h40_s1 : Own ((((wn6.setCell ⟨h4, 0, none⟩ (.int .i64 (f x.1).1)).setCell ⟨h4, 1, none⟩ (.int .i64 (f x.1).2)).setCell ⟨h5, 0, none⟩ (.int .i64 (f x.2).1)).setCell ⟨h5, 1, none⟩ (.int .i64 (f x.2).2)) h4 0 (.int .i64 (f x.1).1) := own_far (by dsimp only; omega) (own_far (by dsimp only; omega) o_h40_s0)
            have o_h41_s1 : Own ((((wn6.setCell ⟨h4, 0, none⟩ (.int .i64 (f x.1).1)).setCell ⟨h4, 1, none⟩ (.int .i64 (f x.1).2)).setCell ⟨h5, 0, none⟩ (.int .i64 (f x.2).1)).setCell ⟨h5, 1, none⟩ (.int .i64 (f x.2).2)) h4 1 (.int .i64 (f x.1).2) := own_far (by dsimp only; omega) (own_far (by dsimp only; omega) o_h41_s0)
            refine hK.out _ _ (StayS.mk ⟨o_b0_s1.1, o_x0_s1.1, o_x1_s1.1⟩) ?_
            clear hK K cH0 fH0 cH1 fH1
            try simp only [Act.put, List.setIfInBounds_toArray, List.set_cons_zero, List.set_cons_succ]
            refine AnyS.done (by kernel_rfl) ?_ _
            go_wp2_with fail
            go_meet
            exact ⟨h4, h5, rfl, rfl, o_h40_s1, o_h41_s1, o_h50_s1, o_h51_s1, by omega, by omega, o_r0_s1, o_r1_s1, belB⟩
        · go_simp
          obtain ⟨h4, hh⟩ : ∃ h, h = wn1.heap.size := ⟨_, rfl⟩
          obtain ⟨wn7, ha⟩ : ∃ x, x = wn1.alloc (.cells #[.int .i64 0, .int .i64 0] 26) := ⟨_, rfl⟩
          rw [← ha]
          have o_h40_n7 : Own wn7 h4 0 (.int .i64 0) := by rw [ha, hh]; exact ⟨by simp [go_sem], by simp [go_sem]⟩
          have o_h41_n7 : Own wn7 h4 1 (.int .i64 0) := by rw [ha, hh]; exact ⟨by simp [go_sem], by simp [go_sem]⟩
          have o_b0_n7 : Own wn7 b 0 (.func (Fn.func fn) #[] caps) := by rw [ha]; exact own_alloc o_b0_n1
          have o_x0_n7 : Own wn7 w.heap.size 0 (.int .i64 x.1) := by rw [ha]; exact own_alloc o_x0_n1
          have o_x1_n7 : Own wn7 w.heap.size 1 (.int .i64 x.2) := by rw [ha]; exact own_alloc o_x1_n1
          have o_r0_n7 : Own wn7 (w.heap.size + 1) 0 (.int .i64 0) := by rw [ha]; exact own_alloc o_r0_n1
          have o_r1_n7 : Own wn7 (w.heap.size + 1) 1 (.int .i64 0) := by rw [ha]; exact own_alloc o_r1_n1
          have st_n7 : St wn7 := by rw [ha]; exact SA _ _ st_n1
          have lh4_b : b < h4 := by rw [hh]; exact World.block_lt_of_cell? _ _ o_b0_n1.1
          have lh4_x : w.heap.size < h4 := by rw [hh]; exact World.block_lt_of_cell? _ _ o_x0_n1.1
          have lh4_r : (w.heap.size + 1) < h4 := by rw [hh]; exact World.block_lt_of_cell? _ _ o_r0_n1.1
          have bwn7 : Below w.heap.size w wn7 := by rw [ha]; exact bwn1.alloc bwn1.size _
          try rw [← hh]
          clear ha hh
          refine hK.out _ _ (StayS.mk ⟨o_b0_n7.1, o_x0_n7.1, o_x1_n7.1⟩) ?_
          clear hK K
          try simp only [Act.put, List.setIfInBounds_toArray, List.set_cons_zero, List.set_cons_succ]
          refine AnyS.two (i := 7) (j := 9) (by kernel_rfl) (AnyS.comes rfl (fun K hK => ?_)) (AnyS.comes rfl (fun K hK => ?_))
          · go_simp
            refine (HF.out x.2 wn7 fx2 st_n7).mono ?_
            rintro e wn8 ⟨rfl, hbn8⟩
            have o_b0_n8 : Own wn8 b 0 (.func (Fn.func fn) #[] caps) := own_kept hbn8 o_b0_n7
            have o_x0_n8 : Own wn8 w.heap.size 0 (.int .i64 x.1) := own_kept hbn8 o_x0_n7
            have o_x1_n8 : Own wn8 w.heap.size 1 (.int .i64 x.2) := own_kept hbn8 o_x1_n7
            have o_r0_n8 : Own wn8 (w.heap.size + 1) 0 (.int .i64 0) := own_kept hbn8 o_r0_n7
            have o_r1_n8 : Own wn8 (w.heap.size + 1) 1 (.int .i64 0) := own_kept hbn8 o_r1_n7
            have o_h40_n8 : Own wn8 h4 0 (.int .i64 0) := own_kept hbn8 o_h40_n7
            have o_h41_n8 : Own wn8 h4 1 (.int .i64 0) := own_kept hbn8 o_h41_n7
            have st_n8 : St wn8 := SK _ _ st_n7 hbn8
            have bwn8 : Below w.heap.size w wn8 := bwn7.trans (hbn8.mono bwn7.size)
            clear hbn8
            go_wp2_with fail
            refine hK.out _ _ (StayS.mk ⟨o_b0_n8.1, o_x0_n8.1, o_x1_n8.1⟩) ?_
            clear hK K
            try simp only [Act.put, List.setIfInBounds_toArray, List.set_cons_zero, List.set_cons_succ]
            refine AnyS.one (i := 9) (by kernel_rfl) (AnyS.comes rfl (fun K hK => ?_))
            go_simp
            obtain ⟨h5, hh⟩ : ∃ h, h = wn8.heap.size := ⟨_, rfl⟩
            obtain ⟨wn9, ha⟩ : ∃ x, x = wn8.alloc (.cells #[.int .i64 0, .int .i64 0] 26) := ⟨_, rfl⟩
            rw [← ha]
            have o_h50_n9 : Own wn9 h5 0 (.int .i64 0) := by rw [ha, hh]; exact ⟨by simp [go_sem], by simp [go_sem]⟩
            have o_h51_n9 : Own wn9 h5 1 (.int .i64 0) := by rw [ha, hh]; exact ⟨by simp [go_sem], by simp [go_sem]⟩
            have o_b0_n9 : Own wn9 b 0 (.func (Fn.func fn) #[] caps) := by rw [ha]; exact own_alloc o_b0_n8
            have o_x0_n9 : Own wn9 w.heap.size 0 (.int .i64 x.1) := by rw [ha]; exact own_alloc o_x0_n8
            have o_x1_n9 : Own wn9 w.heap.size 1 (.int .i64 x.2) := by rw [ha]; exact own_alloc o_x1_n8
            have o_r0_n9 : Own wn9 (w.heap.size + 1) 0 (.int .i64 0) := by rw [ha]; exact own_alloc o_r0_n8
            have o_r1_n9 : Own wn9 (w.heap.size + 1) 1 (.int .i64 0) := by rw [ha]; exact own_alloc o_r1_n8
            have o_h40_n9 : Own wn9 h4 0 (.int .i64 0) := by rw [ha]; exact own_alloc o_h40_n8
            have o_h41_n9 : Own wn9 h4 1 (.int .i64 0) := by rw [ha]; exact own_alloc o_h41_n8
            have st_n9 : St wn9 := by rw [ha]; exact SA _ _ st_n8
            have lh5_b : b < h5 := by rw [hh]; exact World.block_lt_of_cell? _ _ o_b0_n8.1
            have lh5_x : w.heap.size < h5 := by rw [hh]; exact World.block_lt_of_cell? _ _ o_x0_n8.1
            have lh5_r : (w.heap.size + 1) < h5 := by rw [hh]; exact World.block_lt_of_cell? _ _ o_r0_n8.1
            have lh5_h4 : h4 < h5 := by rw [hh]; exact World.block_lt_of_cell? _ _ o_h40_n8.1
            have bwn9 : Below w.heap.size w wn9 := by rw [ha]; exact bwn8.alloc bwn8.size _
            try rw [← hh]
            clear ha hh
            refine hK.out _ _ (StayS.mk ⟨o_b0_n9.1, o_x0_n9.1, o_x1_n9.1⟩) ?_
            clear hK K
            try simp only [Act.put, List.setIfInBounds_toArray, List.set_cons_zero, List.set_cons_succ]
            have cH0 := (o_h40_n9).1
            have fH0 := (o_h40_n9).2
            have cH1 := (o_h41_n9).1
            have fH1 := (o_h41_n9).2
            refine AnyS.one (i := 10) (by kernel_rfl) (AnyS.comes rfl (fun K hK => ?_))
            go_simp
            have o_b0_s0 : Own ((wn9.setCell ⟨h4, 0, none⟩ (.int .i64 (f x.1).1)).setCell ⟨h4, 1, none⟩ (.int .i64 (f x.1).2)) b 0 (.func (Fn.func fn) #[] caps) := own_far (by dsimp only; omega) (own_far (by dsimp only; omega) o_b0_n9)
            have o_x0_s0 : Own ((wn9.setCell ⟨h4, 0, none⟩ (.int .i64 (f x.1).1)).setCell ⟨h4, 1, none⟩ (.int .i64 (f x.1).2)) w.heap.size 0 (.int .i64 x.1) := own_far (by dsimp only; omega) (own_far (by dsimp only; omega) o_x0_n9)
            have o_x1_s0 : Own ((wn9.setCell ⟨h4, 0, none⟩ (.int .i64 (f x.1).1)).setCell ⟨h4, 1, none⟩ (.int .i64 (f x.1).2)) w.heap.size 1 (.int .i64 x.2) := own_far (by dsimp only; omega) (own_far (by dsimp only; omega) o_x1_n9)
            have o_r0_s0 : Own ((wn9.setCell ⟨h4, 0, none⟩ (.int .i64 (f x.1).1)).setCell ⟨h4, 1, none⟩ (.int .i64 (f x.1).2)) (w.heap.size + 1) 0 (.int .i64 0) := own_far (by dsimp only; omega) (own_far (by dsimp only; omega) o_r0_n9)
            have o_r1_s0 : Own ((wn9.setCell ⟨h4, 0, none⟩ (.int .i64 (f x.1).1)).setCell ⟨h4, 1, none⟩ (.int .i64 (f x.1).2)) (w.heap.size + 1) 1 (.int .i64 0) := own_far (by dsimp only; omega) (own_far (by dsimp only; omega) o_r1_n9)
            have o_h40_s0 : Own ((wn9.setCell ⟨h4, 0, none⟩ (.int .i64 (f x.1).1)).setCell ⟨h4, 1, none⟩ (.int .i64 (f x.1).2)) h4 0 (.int .i64 (f x.1).1) := own_next (by decide) (own_put o_h40_n9)
            have o_h41_s0 : Own ((wn9.setCell ⟨h4, 0, none⟩ (.int .i64 (f x.1).1)).setCell ⟨h4, 1, none⟩ (.int .i64 (f x.1).2)) h4 1 (.int .i64 (f x.1).2) := own_put (own_next (by decide) o_h41_n9)
            have o_h50_s0 : Own ((wn9.setCell ⟨h4, 0, none⟩ (.int .i64 (f x.1).1)).setCell ⟨h4, 1, none⟩ (.int .i64 (f x.1).2)) h5 0 (.int .i64 0) := own_far (by dsimp only; omega) (own_far (by dsimp only; omega) o_h50_n9)
            have o_h51_s0 : Own ((wn9.setCell ⟨h4, 0, none⟩ (.int .i64 (f x.1).1)).setCell ⟨h4, 1, none⟩ (.int .i64 (f x.1).2)) h5 1 (.int .i64 0) := own_far (by dsimp only; omega) (own_far (by dsimp only; omega) o_h51_n9)
            refine hK.out _ _ (StayS.mk ⟨o_b0_s0.1, o_x0_s0.1, o_x1_s0.1⟩) ?_
            clear hK K cH0 fH0 cH1 fH1
            try simp only [Act.put, List.setIfInBounds_toArray, List.set_cons_zero, List.set_cons_succ]
            have cH0 := (o_h50_s0).1
            have fH0 := (o_h50_s0).2
            have cH1 := (o_h51_s0).1
            have fH1 := (o_h51_s0).2
            refine AnyS.one (i := 11) (by kernel_rfl) (AnyS.comes rfl (fun K hK => ?_))
            go_simp
            have o_b0_s1 : Own ((((wn9.setCell ⟨h4, 0, none⟩ (.int .i64 (f x.1).1)).setCell ⟨h4, 1, none⟩ (.int .i64 (f x.1).2)).setCell ⟨h5, 0, none⟩ (.int .i64 (f x.2).1)).setCell ⟨h5, 1, none⟩ (.int .i64 (f x.2).2)) b 0 (.func (Fn.func fn) #[] caps) := own_far (by dsimp only; omega) (own_far (by dsimp only; omega) o_b0_s0)
            have o_x0_s1 : Own ((((wn9.setCell ⟨h4, 0, none⟩ (.int .i64 (f x.1).1)).setCell ⟨h4, 1, none⟩ (.int .i64 (f x.1).2)).setCell ⟨h5, 0, none⟩ (.int .i64 (f x.2).1)).setCell ⟨h5, 1, none⟩ (.int .i64 (f x.2).2)) w.heap.size 0 (.int .i64 x.1) := own_far (by dsimp only; omega) (own_far (by dsimp only; omega) o_x0_s0)
            have o_x1_s1 : Own ((((wn9.setCell ⟨h4, 0, none⟩ (.int .i64 (f x.1).1)).setCell ⟨h4, 1, none⟩ (.int .i64 (f x.1).2)).setCell ⟨h5, 0, none⟩ (.int .i64 (f x.2).1)).setCell ⟨h5, 1, none⟩ (.int .i64 (f x.2).2)) w.heap.size 1 (.int .i64 x.2) := own_far (by dsimp only; omega) (own_far (by dsimp only; omega) o_x1_s0)
            have o_r0_s1 : Own ((((wn9.setCell ⟨h4, 0, none⟩ (.int .i64 (f x.1).1)).setCell ⟨h4, 1, none⟩ (.int .i64 (f x.1).2)).setCell ⟨h5, 0, none⟩ (.int .i64 (f x.2).1)).setCell ⟨h5, 1, none⟩ (.int .i64 (f x.2).2)) (w.heap.size + 1) 0 (.int .i64 0) := own_far (by dsimp only; omega) (own_far (by dsimp only; omega) o_r0_s0)
            have o_r1_s1 : Own ((((wn9.setCell ⟨h4, 0, none⟩ (.int .i64 (f x.1).1)).setCell ⟨h4, 1, none⟩ (.int .i64 (f x.1).2)).setCell ⟨h5, 0, none⟩ (.int .i64 (f x.2).1)).setCell ⟨h5, 1, none⟩ (.int .i64 (f x.2).2)) (w.heap.size + 1) 1 (.int .i64 0) := own_far (by dsimp only; omega) (own_far (by dsimp only; omega) o_r1_s0)
            have o_h40_s1 : Own ((((wn9.setCell ⟨h4, 0, none⟩ (.int .i64 (f x.1).1)).setCell ⟨h4, 1, none⟩ (.int .i64 (f x.1).2)).setCell ⟨h5, 0, none⟩ (.int .i64 (f x.2).1)).setCell ⟨h5, 1, none⟩ (.int .i64 (f x.2).2)) h4 0 (.int .i64 (f x.1).1) := own_far (by dsimp only; omega) (own_far (by dsimp only; omega) o_h40_s0)
            have o_h41_s1 : Own ((((wn9.setCell ⟨h4, 0, none⟩ (.int .i64 (f x.1).1)).setCell ⟨h4, 1, none⟩ (.int .i64 (f x.1).2)).setCell ⟨h5, 0, none⟩ (.int .i64 (f x.2).1)).setCell ⟨h5, 1, none⟩ (.int .i64 (f x.2).2)) h4 1 (.int .i64 (f x.1).2) := own_far (by dsimp only; omega) (own_far (by dsimp only; omega) o_h41_s0)
            have o_h50_s1 : Own ((((wn9.setCell ⟨h4, 0, none⟩ (.int .i64 (f x.1).1)).setCell ⟨h4, 1, none⟩ (.int .i64 (f x.1).2)).setCell ⟨h5, 0, none⟩ (.int .i64 (f x.2).1)).setCell ⟨h5, 1, none⟩ (.int .i64 (f x.2).2)) h5 0 (.int .i64 (f x.2).1) := own_next (by decide) (own_put o_h50_s0)
            have o_h51_s1 : Own ((((wn9.setCell ⟨h4, 0, none⟩ (.int .i64 (f x.1).1)).setCell ⟨h4, 1, none⟩ (.int .i64 (f x.1).2)).setCell ⟨h5, 0, none⟩ (.int .i64 (f x.2).1)).setCell ⟨h5, 1, none⟩ (.int .i64 (f x.2).2)) h5 1 (.int .i64 (f x.2).2) := own_put (own_next (by decide) o_h51_s0)
            refine hK.out _ _ (StayS.mk ⟨o_b0_s1.1, o_x0_s1.1, o_x1_s1.1⟩) ?_
            clear hK K cH0 fH0 cH1 fH1
            try simp only [Act.put, List.setIfInBounds_toArray, List.set_cons_zero, List.set_cons_succ]
            refine AnyS.done (by kernel_rfl) ?_ _
            go_wp2_with fail
            go_meet
            exact ⟨h4, h5, rfl, rfl, o_h40_s1, o_h41_s1, o_h50_s1, o_h51_s1, by omega, by omega, o_r0_s1, o_r1_s1, belB⟩
          · go_simp
            obtain ⟨h5, hh⟩ : ∃ h, h = wn7.heap.size := ⟨_, rfl⟩
            obtain ⟨wn10, ha⟩ : ∃ x, x = wn7.alloc (.cells #[.int .i64 0, .int .i64 0] 26) := ⟨_, rfl⟩
            rw [← ha]
            have o_h50_n10 : Own wn10 h5 0 (.int .i64 0) := by rw [ha, hh]; exact ⟨by simp [go_sem], by simp [go_sem]⟩
            have o_h51_n10 : Own wn10 h5 1 (.int .i64 0) := by rw [ha, hh]; exact ⟨by simp [go_sem], by simp [go_sem]⟩
            have o_b0_n10 : Own wn10 b 0 (.func (Fn.func fn) #[] caps) := by rw [ha]; exact own_alloc o_b0_n7
            have o_x0_n10 : Own wn10 w.heap.size 0 (.int .i64 x.1) := by rw [ha]; exact own_alloc o_x0_n7
            have o_x1_n10 : Own wn10 w.heap.size 1 (.int .i64 x.2) := by rw [ha]; exact own_alloc o_x1_n7
            have o_r0_n10 : Own wn10 (w.heap.size + 1) 0 (.int .i64 0) := by rw [ha]; exact own_alloc o_r0_n7
            have o_r1_n10 : Own wn10 (w.heap.size + 1) 1 (.int .i64 0) := by rw [ha]; exact own_alloc o_r1_n7
            have o_h40_n10 : Own wn10 h4 0 (.int .i64 0) := by rw [ha]; exact own_alloc o_h40_n7
            have o_h41_n10 : Own wn10 h4 1 (.int .i64 0) := by rw [ha]; exact own_alloc o_h41_n7
            have st_n10 : St wn10 := by rw [ha]; exact SA _ _ st_n7
            have lh5_b : b < h5 := by rw [hh]; exact World.block_lt_of_cell? _ _ o_b0_n7.1
            have lh5_x : w.heap.size < h5 := by rw [hh]; exact World.block_lt_of_cell? _ _ o_x0_n7.1
            have lh5_r : (w.heap.size + 1) < h5 := by rw [hh]; exact World.block_lt_of_cell? _ _ o_r0_n7.1
            have lh5_h4 : h4 < h5 := by rw [hh]; exact World.block_lt_of_cell? _ _ o_h40_n7.1
            have bwn10 : Below w.heap.size w wn10 := by rw [ha]; exact bwn7.alloc bwn7.size _
            try rw [← hh]
            clear ha hh
            refine hK.out _ _ (StayS.mk ⟨o_b0_n10.1, o_x0_n10.1, o_x1_n10.1⟩) ?_
            clear hK K
            try simp only [Act.put, List.setIfInBounds_toArray, List.set_cons_zero, List.set_cons_succ]
            refine AnyS.one (i := 7) (by kernel_rfl) (AnyS.comes rfl (fun K hK => ?_))
            go_simp
            refine (HF.out x.2 wn10 fx2 st_n10).mono ?_
            rintro e wn11 ⟨rfl, hbn11⟩
            have o_b0_n11 : Own wn11 b 0 (.func (Fn.func fn) #[] caps) := own_kept hbn11 o_b0_n10
            have o_x0_n11 : Own wn11 w.heap.size 0 (.int .i64 x.1) := own_kept hbn11 o_x0_n10
            have o_x1_n11 : Own wn11 w.heap.size 1 (.int .i64 x.2) := own_kept hbn11 o_x1_n10
            have o_r0_n11 : Own wn11 (w.heap.size + 1) 0 (.int .i64 0) := own_kept hbn11 o_r0_n10
            have o_r1_n11 : Own wn11 (w.heap.size + 1) 1 (.int .i64 0) := own_kept hbn11 o_r1_n10
            have o_h40_n11 : Own wn11 h4 0 (.int .i64 0) := own_kept hbn11 o_h40_n10
            have o_h41_n11 : Own wn11 h4 1 (.int .i64 0) := own_kept hbn11 o_h41_n10
            have o_h50_n11 : Own wn11 h5 0 (.int .i64 0) := own_kept hbn11 o_h50_n10
            have o_h51_n11 : Own wn11 h5 1 (.int .i64 0) := own_kept hbn11 o_h51_n10
            have st_n11 : St wn11 := SK _ _ st_n10 hbn11
            have bwn11 : Below w.heap.size w wn11 := bwn10.trans (hbn11.mono bwn10.size)
            clear hbn11
            go_wp2_with fail
            refine hK.out _ _ (StayS.mk ⟨o_b0_n11.1, o_x0_n11.1, o_x1_n11.1⟩) ?_
            clear hK K
            try simp only [Act.put, List.setIfInBounds_toArray, List.set_cons_zero, List.set_cons_succ]
            have cH0 := (o_h40_n11).1
            have fH0 := (o_h40_n11).2
            have cH1 := (o_h41_n11).1
            have fH1 := (o_h41_n11).2
            refine AnyS.one (i := 10) (by kernel_rfl) (AnyS.comes rfl (fun K hK => ?_))
            go_simp
            have o_b0_s0 : Own ((wn11.setCell ⟨h4, 0, none⟩ (.int .i64 (f x.1).1)).setCell ⟨h4, 1, none⟩ (.int .i64 (f x.1).2)) b 0 (.func (Fn.func fn) #[] caps) := own_far (by dsimp only; omega) (own_far (by dsimp only; omega) o_b0_n11)
            have o_x0_s0 : Own ((wn11.setCell ⟨h4, 0, none⟩ (.int .i64 (f x.1).1)).setCell ⟨h4, 1, none⟩ (.int .i64 (f x.1).2)) w.heap.size 0 (.int .i64 x.1) := own_far (by dsimp only; omega) (own_far (by dsimp only; omega) o_x0_n11)
            have o_x1_s0 : Own ((wn11.setCell ⟨h4, 0, none⟩ (.int .i64 (f x.1).1)).setCell ⟨h4, 1, none⟩ (.int .i64 (f x.1).2)) w.heap.size 1 (.int .i64 x.2) := own_far (by dsimp only; omega) (own_far (by dsimp only; omega) o_x1_n11)
            have o_r0_s0 : Own ((wn11.setCell ⟨h4, 0, none⟩ (.int .i64 (f x.1).1)).setCell ⟨h4, 1, none⟩ (.int .i64 (f x.1).2)) (w.heap.size + 1) 0 (.int .i64 0) := own_far (by dsimp only; omega) (own_far (by dsimp only; omega) o_r0_n11)
            have o_r1_s0 : Own ((wn11.setCell ⟨h4, 0, none⟩ (.int .i64 (f x.1).1)).setCell ⟨h4, 1, none⟩ (.int .i64 (f x.1).2)) (w.heap.size + 1) 1 (.int .i64 0) := own_far (by dsimp only; omega) (own_far (by dsimp only; omega) o_r1_n11)
            have o_h40_s0 : Own ((wn11.setCell ⟨h4, 0, none⟩ (.int .i64 (f x.1).1)).setCell ⟨h4, 1, none⟩ (.int .i64 (f x.1).2)) h4 0 (.int .i64 (f x.1).1) := own_next (by decide) (own_put o_h40_n11)
            have o_h41_s0 : Own ((wn11.setCell ⟨h4, 0, none⟩ (.int .i64 (f x.1).1)).setCell ⟨h4, 1, none⟩ (.int .i64 (f x.1).2)) h4 1 (.int .i64 (f x.1).2) := own_put (own_next (by decide) o_h41_n11)
            have o_h50_s0 : Own ((wn11.setCell ⟨h4, 0, none⟩ (.int .i64 (f x.1).1)).setCell ⟨h4, 1, none⟩ (.int .i64 (f x.1).2)) h5 0 (.int .i64 0) := own_far (by dsimp only; omega) (own_far (by dsimp only; omega) o_h50_n11)
            have o_h51_s0 : Own ((wn11.setCell ⟨h4, 0, none⟩ (.int .i64 (f x.1).1)).setCell ⟨h4, 1, none⟩ (.int .i64 (f x.1).2)) h5 1 (.int .i64 0) := own_far (by dsimp only; omega) (own_far (by dsimp only; omega) o_h51_n11)
            refine hK.out _ _ (StayS.mk ⟨o_b0_s0.1, o_x0_s0.1, o_x1_s0.1⟩) ?_
            clear hK K cH0 fH0 cH1 fH1
            try simp only [Act.put, List.setIfInBounds_toArray, List.set_cons_zero, List.set_cons_succ]
            have cH0 := (o_h50_s0).1
            have fH0 := (o_h50_s0).2
            have cH1 := (o_h51_s0).1
            have fH1 := (o_h51_s0).2
            refine AnyS.one (i := 11) (by kernel_rfl) (AnyS.comes rfl (fun K hK => ?_))
            go_simp
            have o_b0_s1 : Own ((((wn11.setCell ⟨h4, 0, none⟩ (.int .i64 (f x.1).1)).setCell ⟨h4, 1, none⟩ (.int .i64 (f x.1).2)).setCell ⟨h5, 0, none⟩ (.int .i64 (f x.2).1)).setCell ⟨h5, 1, none⟩ (.int .i64 (f x.2).2)) b 0 (.func (Fn.func fn) #[] caps) := own_far (by dsimp only; omega) (own_far (by dsimp only; omega) o_b0_s0)
            have o_x0_s1 : Own ((((wn11.setCell ⟨h4, 0, none⟩ (.int .i64 (f x.1).1)).setCell ⟨h4, 1, none⟩ (.int .i64 (f x.1).2)).setCell ⟨h5, 0, none⟩ (.int .i64 (f x.2).1)).setCell ⟨h5, 1, none⟩ (.int .i64 (f x.2).2)) w.heap.size 0 (.int .i64 x.1) := own_far (by dsimp only; omega) (own_far (by dsimp only; omega) o_x0_s0)
            have o_x1_s1 : Own ((((wn11.setCell ⟨h4, 0, none⟩ (.int .i64 (f x.1).1)).setCell ⟨h4, 1, none⟩ (.int .i64 (f x.1).2)).setCell ⟨h5, 0, none⟩ (.int .i64 (f x.2).1)).setCell ⟨h5, 1, none⟩ (.int .i64 (f x.2).2)) w.heap.size 1 (.int .i64 x.2) := own_far (by dsimp only; omega) (own_far (by dsimp only; omega) o_x1_s0)
            have o_r0_s1 : Own ((((wn11.setCell ⟨h4, 0, none⟩ (.int .i64 (f x.1).1)).setCell ⟨h4, 1, none⟩ (.int .i64 (f x.1).2)).setCell ⟨h5, 0, none⟩ (.int .i64 (f x.2).1)).setCell ⟨h5, 1, none⟩ (.int .i64 (f x.2).2)) (w.heap.size + 1) 0 (.int .i64 0) := own_far (by dsimp only; omega) (own_far (by dsimp only; omega) o_r0_s0)
            have o_r1_s1 : Own ((((wn11.setCell ⟨h4, 0, none⟩ (.int .i64 (f x.1).1)).setCell ⟨h4, 1, none⟩ (.int .i64 (f x.1).2)).setCell ⟨h5, 0, none⟩ (.int .i64 (f x.2).1)).setCell ⟨h5, 1, none⟩ (.int .i64 (f x.2).2)) (w.heap.size + 1) 1 (.int .i64 0) := own_far (by dsimp only; omega) (own_far (by dsimp only; omega) o_r1_s0)
            have o_h40_s1 : Own ((((wn11.setCell ⟨h4, 0, none⟩ (.int .i64 (f x.1).1)).setCell ⟨h4, 1, none⟩ (.int .i64 (f x.1).2)).setCell ⟨h5, 0, none⟩ (.int .i64 (f x.2).1)).setCell ⟨h5, 1, none⟩ (.int .i64 (f x.2).2)) h4 0 (.int .i64 (f x.1).1) := own_far (by dsimp only; omega) (own_far (by dsimp only; omega) o_h40_s0)
            have o_h41_s1 : Own ((((wn11.setCell ⟨h4, 0, none⟩ (.int .i64 (f x.1).1)).setCell ⟨h4, 1, none⟩ (.int .i64 (f x.1).2)).setCell ⟨h5, 0, none⟩ (.int .i64 (f x.2).1)).setCell ⟨h5, 1, none⟩ (.int .i64 (f x.2).2)) h4 1 (.int .i64 (f x.1).2) := own_far (by dsimp only; omega) (own_far (by dsimp only; omega) o_h41_s0)
            have o_h50_s1 : Own ((((wn11.setCell ⟨h4, 0, none⟩ (.int .i64 (f x.1).1)).setCell ⟨h4, 1, none⟩ (.int .i64 (f x.1).2)).setCell ⟨h5, 0, none⟩ (.int .i64 (f x.2).1)).setCell ⟨h5, 1, none⟩ (.int .i64 (f x.2).2)) h5 0 (.int .i64 (f x.2).1) := own_next (by decide) (own_put o_h50_s0)
            have o_h51_s1 : Own ((((wn11.setCell ⟨h4, 0, none⟩ (.int .i64 (f x.1).1)).setCell ⟨h4, 1, none⟩ (.int .i64 (f x.1).2)).setCell ⟨h5, 0, none⟩ (.int .i64 (f x.2).1)).setCell ⟨h5, 1, none⟩ (.int .i64 (f x.2).2)) h5 1 (.int .i64 (f x.2).2) := own_put (own_next (by decide) o_h51_s0)
            refine hK.out _ _ (StayS.mk ⟨o_b0_s1.1, o_x0_s1.1, o_x1_s1.1⟩) ?_
            clear hK K cH0 fH0 cH1 fH1
            try simp only [Act.put, List.setIfInBounds_toArray, List.set_cons_zero, List.set_cons_succ]
            refine AnyS.done (by kernel_rfl) ?_ _
            go_wp2_with fail
            go_meet
            exact ⟨h4, h5, rfl, rfl, o_h40_s1, o_h41_s1, o_h50_s1, o_h51_s1, by omega, by omega, o_r0_s1, o_r1_s1, belB⟩
        · go_simp
          obtain ⟨h5, hh⟩ : ∃ h, h = wn1.heap.size := ⟨_, rfl⟩
          obtain ⟨wn12, ha⟩ : ∃ x, x = wn1.alloc (.cells #[.int .i64 0, .int .i64 0] 26) := ⟨_, rfl⟩
          rw [← ha]
          have o_h50_n12 : Own wn12 h5 0 (.int .i64 0) := by rw [ha, hh]; exact ⟨by simp [go_sem], by simp [go_sem]⟩
          have o_h51_n12 : Own wn12 h5 1 (.int .i64 0) := by rw [ha, hh]; exact ⟨by simp [go_sem], by simp [go_sem]⟩
          have o_b0_n12 : Own wn12 b 0 (.func (Fn.func fn) #[] caps) := by rw [ha]; exact own_alloc o_b0_n1
          have o_x0_n12 : Own wn12 w.heap.size 0 (.int .i64 x.1) := by rw [ha]; exact own_alloc o_x0_n1
          have o_x1_n12 : Own wn12 w.heap.size 1 (.int .i64 x.2) := by rw [ha]; exact own_alloc o_x1_n1
          have o_r0_n12 : Own wn12 (w.heap.size + 1) 0 (.int .i64 0) := by rw [ha]; exact own_alloc o_r0_n1
          have o_r1_n12 : Own wn12 (w.heap.size + 1) 1 (.int .i64 0) := by rw [ha]; exact own_alloc o_r1_n1
          have st_n12 : St wn12 := by rw [ha]; exact SA _ _ st_n1
          have lh5_b : b < h5 := by rw [hh]; exact World.block_lt_of_cell? _ _ o_b0_n1.1
          have lh5_x : w.heap.size < h5 := by rw [hh]; exact World.block_lt_of_cell? _ _ o_x0_n1.1
          have lh5_r : (w.heap.size + 1) < h5 := by rw [hh]; exact World.block_lt_of_cell? _ _ o_r0_n1.1
          have bwn12 : Below w.heap.size w wn12 := by rw [ha]; exact bwn1.alloc bwn1.size _
          try rw [← hh]
          clear ha hh
          refine hK.out _ _ (StayS.mk ⟨o_b0_n12.1, o_x0_n12.1, o_x1_n12.1⟩) ?_
          clear hK K
          try simp only [Act.put, List.setIfInBounds_toArray, List.set_cons_zero, List.set_cons_succ]
          refine AnyS.two (i := 7) (j := 8) (by kernel_rfl) (AnyS.comes rfl (fun K hK => ?_)) (AnyS.comes rfl (fun K hK => ?_))
          · go_simp
            refine (HF.out x.2 wn12 fx2 st_n12).mono ?_
            rintro e wn13 ⟨rfl, hbn13⟩
            have o_b0_n13 : Own wn13 b 0 (.func (Fn.func fn) #[] caps) := own_kept hbn13 o_b0_n12
            have o_x0_n13 : Own wn13 w.heap.size 0 (.int .i64 x.1) := own_kept hbn13 o_x0_n12
            have o_x1_n13 : Own wn13 w.heap.size 1 (.int .i64 x.2) := own_kept hbn13 o_x1_n12
            have o_r0_n13 : Own wn13 (w.heap.size + 1) 0 (.int .i64 0) := own_kept hbn13 o_r0_n12
            have o_r1_n13 : Own wn13 (w.heap.size + 1) 1 (.int .i64 0) := own_kept hbn13 o_r1_n12
            have o_h50_n13 : Own wn13 h5 0 (.int .i64 0) := own_kept hbn13 o_h50_n12
            have o_h51_n13 : Own wn13 h5 1 (.int .i64 0) := own_kept hbn13 o_h51_n12
            have st_n13 : St wn13 := SK _ _ st_n12 hbn13
            have bwn13 : Below w.heap.size w wn13 := bwn12.trans (hbn13.mono bwn12.size)
            clear hbn13
            go_wp2_with fail
            refine hK.out _ _ (StayS.mk ⟨o_b0_n13.1, o_x0_n13.1, o_x1_n13.1⟩) ?_
            clear hK K
            try simp only [Act.put, List.setIfInBounds_toArray, List.set_cons_zero, List.set_cons_succ]
            refine AnyS.one (i := 8) (by kernel_rfl) (AnyS.comes rfl (fun K hK => ?_))
            go_simp
            obtain ⟨h4, hh⟩ : ∃ h, h = wn13.heap.size := ⟨_, rfl⟩
            obtain ⟨wn14, ha⟩ : ∃ x, x = wn13.alloc (.cells #[.int .i64 0, .int .i64 0] 26) := ⟨_, rfl⟩
            rw [← ha]
            have o_h40_n14 : Own wn14 h4 0 (.int .i64 0) := by rw [ha, hh]; exact ⟨by simp [go_sem], by simp [go_sem]⟩
            have o_h41_n14 : Own wn14 h4 1 (.int .i64 0) := by rw [ha, hh]; exact ⟨by simp [go_sem], by simp [go_sem]⟩
            have o_b0_n14 : Own wn14 b 0 (.func (Fn.func fn) #[] caps) := by rw [ha]; exact own_alloc o_b0_n13
            have o_x0_n14 : Own wn14 w.heap.size 0 (.int .i64 x.1) := by rw [ha]; exact own_alloc o_x0_n13
            have o_x1_n14 : Own wn14 w.heap.size 1 (.int .i64 x.2) := by rw [ha]; exact own_alloc o_x1_n13
            have o_r0_n14 : Own wn14 (w.heap.size + 1) 0 (.int .i64 0) := by rw [ha]; exact own_alloc o_r0_n13
            have o_r1_n14 : Own wn14 (w.heap.size + 1) 1 (.int .i64 0) := by rw [ha]; exact own_alloc o_r1_n13
            have o_h50_n14 : Own wn14 h5 0 (.int .i64 0) := by rw [ha]; exact own_alloc o_h50_n13
            have o_h51_n14 : Own wn14 h5 1 (.int .i64 0) := by rw [ha]; exact own_alloc o_h51_n13
            have st_n14 : St wn14 := by rw [ha]; exact SA _ _ st_n13
            have lh4_b : b < h4 := by rw [hh]; exact World.block_lt_of_cell? _ _ o_b0_n13.1
            have lh4_x : w.heap.size < h4 := by rw [hh]; exact World.block_lt_of_cell? _ _ o_x0_n13.1
            have lh4_r : (w.heap.size + 1) < h4 := by rw [hh]; exact World.block_lt_of_cell? _ _ o_r0_n13.1
            have lh4_h5 : h5 < h4 := by rw [hh]; exact World.block_lt_of_cell? _ _ o_h50_n13.1
            have bwn14 : Below w.heap.size w wn14 := by rw [ha]; exact bwn13.alloc bwn13.size _
            try rw [← hh]
            clear ha hh
            refine hK.out _ _ (StayS.mk ⟨o_b0_n14.1, o_x0_n14.1, o_x1_n14.1⟩) ?_
            clear hK K
            try simp only [Act.put, List.setIfInBounds_toArray, List.set_cons_zero, List.set_cons_succ]
            have cH0 := (o_h40_n14).1
            have fH0 := (o_h40_n14).2
            have cH1 := (o_h41_n14).1
            have fH1 := (o_h41_n14).2
            refine AnyS.one (i := 10) (by kernel_rfl) (AnyS.comes rfl (fun K hK => ?_))
            go_simp
            have o_b0_s0 : Own ((wn14.setCell ⟨h4, 0, none⟩ (.int .i64 (f x.1).1)).setCell ⟨h4, 1, none⟩ (.int .i64 (f x.1).2)) b 0 (.func (Fn.func fn) #[] caps) := own_far (by dsimp only; omega) (own_far (by dsimp only; omega) o_b0_n14)
            have o_x0_s0 : Own ((wn14.setCell ⟨h4, 0, none⟩ (.int .i64 (f x.1).1)).setCell ⟨h4, 1, none⟩ (.int .i64 (f x.1).2)) w.heap.size 0 (.int .i64 x.1) := own_far (by dsimp only; omega) (own_far (by dsimp only; omega) o_x0_n14)
            have o_x1_s0 : Own ((wn14.setCell ⟨h4, 0, none⟩ (.int .i64 (f x.1).1)).setCell ⟨h4, 1, none⟩ (.int .i64 (f x.1).2)) w.heap.size 1 (.int .i64 x.2) := own_far (by dsimp only; omega) (own_far (by dsimp only; omega) o_x1_n14)
            have o_r0_s0 : Own ((wn14.setCell ⟨h4, 0, none⟩ (.int .i64 (f x.1).1)).setCell ⟨h4, 1, none⟩ (.int .i64 (f x.1).2)) (w.heap.size + 1) 0 (.int .i64 0) := own_far (by dsimp only; omega) (own_far (by dsimp only; omega) o_r0_n14)
            have o_r1_s0 : Own ((wn14.setCell ⟨h4, 0, none⟩ (.int .i64 (f x.1).1)).setCell ⟨h4, 1, none⟩ (.int .i64 (f x.1).2)) (w.heap.size + 1) 1 (.int .i64 0) := own_far (by dsimp only; omega) (own_far (by dsimp only; omega) o_r1_n14)
            have o_h50_s0 : Own ((wn14.setCell ⟨h4, 0, none⟩ (.int .i64 (f x.1).1)).setCell ⟨h4, 1, none⟩ (.int .i64 (f x.1).2)) h5 0 (.int .i64 0) := own_far (by dsimp only; omega) (own_far (by dsimp only; omega) o_h50_n14)
            have o_h51_s0 : Own ((wn14.setCell ⟨h4, 0, none⟩ (.int .i64 (f x.1).1)).setCell ⟨h4, 1, none⟩ (.int .i64 (f x.1).2)) h5 1 (.int .i64 0) := own_far (by dsimp only; omega) (own_far (by dsimp only; omega) o_h51_n14)
            have o_h40_s0 : Own ((wn14.setCell ⟨h4, 0, none⟩ (.int .i64 (f x.1).1)).setCell ⟨h4, 1, none⟩ (.int .i64 (f x.1).2)) h4 0 (.int .i64 (f x.1).1) := own_next (by decide) (own_put o_h40_n14)
            have o_h41_s0 : Own ((wn14.setCell ⟨h4, 0, none⟩ (.int .i64 (f x.1).1)).setCell ⟨h4, 1, none⟩ (.int .i64 (f x.1).2)) h4 1 (.int .i64 (f x.1).2) := own_put (own_next (by decide) o_h41_n14)
            refine hK.out _ _ (StayS.mk ⟨o_b0_s0.1, o_x0_s0.1, o_x1_s0.1⟩) ?_
            clear hK K cH0 fH0 cH1 fH1
            try simp only [Act.put, List.setIfInBounds_toArray, List.set_cons_zero, List.set_cons_succ]
            have cH0 := (o_h50_s0).1
            have fH0 := (o_h50_s0).2
            have cH1 := (o_h51_s0).1
            have fH1 := (o_h51_s0).2
            refine AnyS.one (i := 11) (by kernel_rfl) (AnyS.comes rfl (fun K hK => ?_))
            go_simp
            have o_b0_s1 : Own ((((wn14.setCell ⟨h4, 0, none⟩ (.int .i64 (f x.1).1)).setCell ⟨h4, 1, none⟩ (.int .i64 (f x.1).2)).setCell ⟨h5, 0, none⟩ (.int .i64 (f x.2).1)).setCell ⟨h5, 1, none⟩ (.int .i64 (f x.2).2)) b 0 (.func (Fn.func fn) #[] caps) := own_far (by dsimp only; omega) (own_far (by dsimp only; omega) o_b0_s0)
            have o_x0_s1 : Own ((((wn14.setCell ⟨h4, 0, none⟩ (.int .i64 (f x.1).1)).setCell ⟨h4, 1, none⟩ (.int .i64 (f x.1).2)).setCell ⟨h5, 0, none⟩ (.int .i64 (f x.2).1)).setCell ⟨h5, 1, none⟩ (.int .i64 (f x.2).2)) w.heap.size 0 (.int .i64 x.1) := own_far (by dsimp only; omega) (own_far (by dsimp only; omega) o_x0_s0)
            have o_x1_s1 : Own ((((wn14.setCell ⟨h4, 0, none⟩ (.int .i64 (f x.1).1)).setCell ⟨h4, 1, none⟩ (.int .i64 (f x.1).2)).setCell ⟨h5, 0, none⟩ (.int .i64 (f x.2).1)).setCell ⟨h5, 1, none⟩ (.int .i64 (f x.2).2)) w.heap.size 1 (.int .i64 x.2) := own_far (by dsimp only; omega) (own_far (by dsimp only; omega) o_x1_s0)
            have o_r0_s1 : Own ((((wn14.setCell ⟨h4, 0, none⟩ (.int .i64 (f x.1).1)).setCell ⟨h4, 1, none⟩ (.int .i64 (f x.1).2)).setCell ⟨h5, 0, none⟩ (.int .i64 (f x.2).1)).setCell ⟨h5, 1, none⟩ (.int .i64 (f x.2).2)) (w.heap.size + 1) 0 (.int .i64 0) := own_far (by dsimp only; omega) (own_far (by dsimp only; omega) o_r0_s0)
            have o_r1_s1 : Own ((((wn14.setCell ⟨h4, 0, none⟩ (.int .i64 (f x.1).1)).setCell ⟨h4, 1, none⟩ (.int .i64 (f x.1).2)).setCell ⟨h5, 0, none⟩ (.int .i64 (f x.2).1)).setCell ⟨h5, 1, none⟩ (.int .i64 (f x.2).2)) (w.heap.size + 1) 1 (.int .i64 0) := own_far (by dsimp only; omega) (own_far (by dsimp only; omega) o_r1_s0)
            have o_h50_s1 : Own ((((wn14.setCell ⟨h4, 0, none⟩ (.int .i64 (f x.1).1)).setCell ⟨h4, 1, none⟩ (.int .i64 (f x.1).2)).setCell ⟨h5, 0, none⟩ (.int .i64 (f x.2).1)).setCell ⟨h5, 1, none⟩ (.int .i64 (f x.2).2)) h5 0 (.int .i64 (f x.2).1) := own_next (by decide) (own_put o_h50_s0)
            have o_h51_s1 : Own ((((wn14.setCell ⟨h4, 0, none⟩ (.int .i64 (f x.1).1)).setCell ⟨h4, 1, none⟩ (.int .i64 (f x.1).2)).setCell ⟨h5, 0, none⟩ (.int .i64 (f x.2).1)).setCell ⟨h5, 1, none⟩ (.int .i64 (f x.2).2)) h5 1 (.int .i64 (f x.2).2) := own_put (own_next (by decide) o_h51_s0)
            have o_h40_s1 : Own ((((wn14.setCell ⟨h4, 0, none⟩ (.int .i64 (f x.1).1)).setCell ⟨h4, 1, none⟩ (.int .i64 (f x.1).2)).setCell ⟨h5, 0, none⟩ (.int .i64 (f x.2).1)).setCell ⟨h5, 1, none⟩ (.int .i64 (f x.2).2)) h4 0 (.int .i64 (f x.1).1) := own_far (by dsimp only; omega) (own_far (by dsimp only; omega) o_h40_s0)
            have o_h41_s1 : Own ((((wn14.setCell ⟨h4, 0, none⟩ (.int .i64 (f x.1).1)).setCell ⟨h4, 1, none⟩ (.int .i64 (f x.1).2)).setCell ⟨h5, 0, none⟩ (.int .i64 (f x.2).1)).setCell ⟨h5, 1, none⟩ (.int .i64 (f x.2).2)) h4 1 (.int .i64 (f x.1).2) := own_far (by dsimp only; omega) (own_far (by dsimp only; omega) o_h41_s0)
            refine hK.out _ _ (StayS.mk ⟨o_b0_s1.1, o_x0_s1.1, o_x1_s1.1⟩) ?_
            clear hK K cH0 fH0 cH1 fH1
            try simp only [Act.put, List.setIfInBounds_toArray, List.set_cons_zero, List.set_cons_succ]
            refine AnyS.done (by kernel_rfl) ?_ _
            go_wp2_with fail
            go_meet
            exact ⟨h4, h5, rfl, rfl, o_h40_s1, o_h41_s1, o_h50_s1, o_h51_s1, by omega, by omega, o_r0_s1, o_r1_s1, belB⟩
          · go_simp
            obtain ⟨h4, hh⟩ : ∃ h, h = wn12.heap.size := ⟨_, rfl⟩
            obtain ⟨wn15, ha⟩ : ∃ x, x = wn12.alloc (.cells #[.int .i64 0, .int .i64 0] 26) := ⟨_, rfl⟩
            rw [← ha]
            have o_h40_n15 : Own wn15 h4 0 (.int .i64 0) := by rw [ha, hh]; exact ⟨by simp [go_sem], by simp [go_sem]⟩
            have o_h41_n15 : Own wn15 h4 1 (.int .i64 0) := by rw [ha, hh]; exact ⟨by simp [go_sem], by simp [go_sem]⟩
            have o_b0_n15 : Own wn15 b 0 (.func (Fn.func fn) #[] caps) := by rw [ha]; exact own_alloc o_b0_n12
            have o_x0_n15 : Own wn15 w.heap.size 0 (.int .i64 x.1) := by rw [ha]; exact own_alloc o_x0_n12
            have o_x1_n15 : Own wn15 w.heap.size 1 (.int .i64 x.2) := by rw [ha]; exact own_alloc o_x1_n12
            have o_r0_n15 : Own wn15 (w.heap.size + 1) 0 (.int .i64 0) := by rw [ha]; exact own_alloc o_r0_n12
            have o_r1_n15 : Own wn15 (w.heap.size + 1) 1 (.int .i64 0) := by rw [ha]; exact own_alloc o_r1_n12
            have o_h50_n15 : Own wn15 h5 0 (.int .i64 0) := by rw [ha]; exact own_alloc o_h50_n12
            have o_h51_n15 : Own wn15 h5 1 (.int .i64 0) := by rw [ha]; exact own_alloc o_h51_n12
            have st_n15 : St wn15 := by rw [ha]; exact SA _ _ st_n12
            have lh4_b : b < h4 := by rw [hh]; exact World.block_lt_of_cell? _ _ o_b0_n12.1
            have lh4_x : w.heap.size < h4 := by rw [hh]; exact World.block_lt_of_cell? _ _ o_x0_n12.1
            have lh4_r : (w.heap.size + 1) < h4 := by rw [hh]; exact World.block_lt_of_cell? _ _ o_r0_n12.1
            have lh4_h5 : h5 < h4 := by rw [hh]; exact World.block_lt_of_cell? _ _ o_h50_n12.1
            have bwn15 : Below w.heap.size w wn15 := by rw [ha]; exact bwn12.alloc bwn12.size _
            try rw [← hh]
            clear ha hh
            refine hK.out _ _ (StayS.mk ⟨o_b0_n15.1, o_x0_n15.1, o_x1_n15.1⟩) ?_
            clear hK K
            try simp only [Act.put, List.setIfInBounds_toArray, List.set_cons_zero, List.set_cons_succ]
            refine AnyS.one (i := 7) (by kernel_rfl) (AnyS.comes rfl (fun K hK => ?_))
            go_simp
            refine (HF.out x.2 wn15 fx2 st_n15).mono ?_
            rintro e wn16 ⟨rfl, hbn16⟩
            have o_b0_n16 : Own wn16 b 0 (.func (Fn.func fn) #[] caps) := own_kept hbn16 o_b0_n15
            have o_x0_n16 : Own wn16 w.heap.size 0 (.int .i64 x.1) := own_kept hbn16 o_x0_n15
            have o_x1_n16 : Own wn16 w.heap.size 1 (.int .i64 x.2) := own_kept hbn16 o_x1_n15
            have o_r0_n16 : Own wn16 (w.heap.size + 1) 0 (.int .i64 0) := own_kept hbn16 o_r0_n15
            have o_r1_n16 : Own wn16 (w.heap.size + 1) 1 (.int .i64 0) := own_kept hbn16 o_r1_n15
            have o_h50_n16 : Own wn16 h5 0 (.int .i64 0) := own_kept hbn16 o_h50_n15
            have o_h51_n16 : Own wn16 h5 1 (.int .i64 0) := own_kept hbn16 o_h51_n15
            have o_h40_n16 : Own wn16 h4 0 (.int .i64 0) := own_kept hbn16 o_h40_n15
            have o_h41_n16 : Own wn16 h4 1 (.int .i64 0) := own_kept hbn16 o_h41_n15
            have st_n16 : St wn16 := SK _ _ st_n15 hbn16
            have bwn16 : Below w.heap.size w wn16 := bwn15.trans (hbn16.mono bwn15.size)
            clear hbn16
            go_wp2_with fail
            refine hK.out _ _ (StayS.mk ⟨o_b0_n16.1, o_x0_n16.1, o_x1_n16.1⟩) ?_
            clear hK K
            try simp only [Act.put, List.setIfInBounds_toArray, List.set_cons_zero, List.set_cons_succ]
            have cH0 := (o_h40_n16).1
            have fH0 := (o_h40_n16).2
            have cH1 := (o_h41_n16).1
            have fH1 := (o_h41_n16).2
            refine AnyS.one (i := 10) (by kernel_rfl) (AnyS.comes rfl (fun K hK => ?_))
            go_simp
            have o_b0_s0 : Own ((wn16.setCell ⟨h4, 0, none⟩ (.int .i64 (f x.1).1)).setCell ⟨h4, 1, none⟩ (.int .i64 (f x.1).2)) b 0 (.func (Fn.func fn) #[] caps) := own_far (by dsimp only; omega) (own_far (by dsimp only; omega) o_b0_n16)
            have o_x0_s0 : Own ((wn16.setCell ⟨h4, 0, none⟩ (.int .i64 (f x.1).1)).setCell ⟨h4, 1, none⟩ (.int .i64 (f x.1).2)) w.heap.size 0 (.int .i64 x.1) := own_far (by dsimp only; omega) (own_far (by dsimp only; omega) o_x0_n16)
            have o_x1_s0 : Own ((wn16.setCell ⟨h4, 0, none⟩ (.int .i64 (f x.1).1)).setCell ⟨h4, 1, none⟩ (.int .i64 (f x.1).2)) w.heap.size 1 (.int .i64 x.2) := own_far (by dsimp only; omega) (own_far (by dsimp only; omega) o_x1_n16)
            have o_r0_s0 : Own ((wn16.setCell ⟨h4, 0, none⟩ (.int .i64 (f x.1).1)).setCell ⟨h4, 1, none⟩ (.int .i64 (f x.1).2)) (w.heap.size + 1) 0 (.int .i64 0) := own_far (by dsimp only; omega) (own_far (by dsimp only; omega) o_r0_n16)
            have o_r1_s0 : Own ((wn16.setCell ⟨h4, 0, none⟩ (.int .i64 (f x.1).1)).setCell ⟨h4, 1, none⟩ (.int .i64 (f x.1).2)) (w.heap.size + 1) 1 (.int .i64 0) := own_far (by dsimp only; omega) (own_far (by dsimp only; omega) o_r1_n16)
            have o_h50_s0 : Own ((wn16.setCell ⟨h4, 0, none⟩ (.int .i64 (f x.1).1)).setCell ⟨h4, 1, none⟩ (.int .i64 (f x.1).2)) h5 0 (.int .i64 0) := own_far (by dsimp only; omega) (own_far (by dsimp only; omega) o_h50_n16)
            have o_h51_s0 : Own ((wn16.setCell ⟨h4, 0, none⟩ (.int .i64 (f x.1).1)).setCell ⟨h4, 1, none⟩ (.int .i64 (f x.1).2)) h5 1 (.int .i64 0) := own_far (by dsimp only; omega) (own_far (by dsimp only; omega) o_h51_n16)
            have o_h40_s0 : Own ((wn16.setCell ⟨h4, 0, none⟩ (.int .i64 (f x.1).1)).setCell ⟨h4, 1, none⟩ (.int .i64 (f x.1).2)) h4 0 (.int .i64 (f x.1).1) := own_next (by decide) (own_put o_h40_n16)
            have o_h41_s0 : Own ((wn16.setCell ⟨h4, 0, none⟩ (.int .i64 (f x.1).1)).setCell ⟨h4, 1, none⟩ (.int .i64 (f x.1).2)) h4 1 (.int .i64 (f x.1).2) := own_put (own_next (by decide) o_h41_n16)
            refine hK.out _ _ (StayS.mk ⟨o_b0_s0.1, o_x0_s0.1, o_x1_s0.1⟩) ?_
            clear hK K cH0 fH0 cH1 fH1
            try simp only [Act.put, List.setIfInBounds_toArray, List.set_cons_zero, List.set_cons_succ]
            have cH0 := (o_h50_s0).1
            have fH0 := (o_h50_s0).2
            have cH1 := (o_h51_s0).1
            have fH1 := (o_h51_s0).2
            refine AnyS.one (i := 11) (by kernel_rfl) (AnyS.comes rfl (fun K hK => ?_))
            go_simp
            have o_b0_s1 : Own ((((wn16.setCell ⟨h4, 0, none⟩ (.int .i64 (f x.1).1)).setCell ⟨h4, 1, none⟩ (.int .i64 (f x.1).2)).setCell ⟨h5, 0, none⟩ (.int .i64 (f x.2).1)).setCell ⟨h5, 1, none⟩ (.int .i64 (f x.2).2)) b 0 (.func (Fn.func fn) #[] caps) := own_far (by dsimp only; omega) (own_far (by dsimp only; omega) o_b0_s0)
            have o_x0_s1 : Own ((((wn16.setCell ⟨h4, 0, none⟩ (.int .i64 (f x.1).1)).setCell ⟨h4, 1, none⟩ (.int .i64 (f x.1).2)).setCell ⟨h5, 0, none⟩ (.int .i64 (f x.2).1)).setCell ⟨h5, 1, none⟩ (.int .i64 (f x.2).2)) w.heap.size 0 (.int .i64 x.1) := own_far (by dsimp only; omega) (own_far (by dsimp only; omega) o_x0_s0)
            have o_x1_s1 : Own ((((wn16.setCell ⟨h4, 0, none⟩ (.int .i64 (f x.1).1)).setCell ⟨h4, 1, none⟩ (.int .i64 (f x.1).2)).setCell ⟨h5, 0, none⟩ (.int .i64 (f x.2).1)).setCell ⟨h5, 1, none⟩ (.int .i64 (f x.2).2)) w.heap.size 1 (.int .i64 x.2) := own_far (by dsimp only; omega) (own_far (by dsimp only; omega) o_x1_s0)
            have o_r0_s1 : Own ((((wn16.setCell ⟨h4, 0, none⟩ (.int .i64 (f x.1).1)).setCell ⟨h4, 1, none⟩ (.int .i64 (f x.1).2)).setCell ⟨h5, 0, none⟩ (.int .i64 (f x.2).1)).setCell ⟨h5, 1, none⟩ (.int .i64 (f x.2).2)) (w.heap.size + 1) 0 (.int .i64 0) := own_far (by dsimp only; omega) (own_far (by dsimp only; omega) o_r0_s0)
            have o_r1_s1 : Own ((((wn16.setCell ⟨h4, 0, none⟩ (.int .i64 (f x.1).1)).setCell ⟨h4, 1, none⟩ (.int .i64 (f x.1).2)).setCell ⟨h5, 0, none⟩ (.int .i64 (f x.2).1)).setCell ⟨h5, 1, none⟩ (.int .i64 (f x.2).2)) (w.heap.size + 1) 1 (.int .i64 0) := own_far (by dsimp only; omega) (own_far (by dsimp only; omega) o_r1_s0)
            have o_h50_s1 : Own ((((wn16.setCell ⟨h4, 0, none⟩ (.int .i64 (f x.1).1)).setCell ⟨h4, 1, none⟩ (.int .i64 (f x.1).2)).setCell ⟨h5, 0, none⟩ (.int .i64 (f x.2).1)).setCell ⟨h5, 1, none⟩ (.int .i64 (f x.2).2)) h5 0 (.int .i64 (f x.2).1) := own_next (by decide) (own_put o_h50_s0)
            have o_h51_s1 : Own ((((wn16.setCell ⟨h4, 0, none⟩ (.int .i64 (f x.1).1)).setCell ⟨h4, 1, none⟩ (.int .i64 (f x.1).2)).setCell ⟨h5, 0, none⟩ (.int .i64 (f x.2).1)).setCell ⟨h5, 1, none⟩ (.int .i64 (f x.2).2)) h5 1 (.int .i64 (f x.2).2) := own_put (own_next (by decide) o_h51_s0)
            have o_h40_s1 : Own ((((wn16.setCell ⟨h4, 0, none⟩ (.int .i64 (f x.1).1)).setCell ⟨h4, 1, none⟩ (.int .i64 (f x.1).2)).setCell ⟨h5, 0, none⟩ (.int .i64 (f x.2).1)).setCell ⟨h5, 1, none⟩ (.int .i64 (f x.2).2)) h4 0 (.int .i64 (f x.1).1) := own_far (by dsimp only; omega) (own_far (by dsimp only; omega) o_h40_s0)
            have o_h41_s1 : Own ((((wn16.setCell ⟨h4, 0, none⟩ (.int .i64 (f x.1).1)).setCell ⟨h4, 1, none⟩ (.int .i64 (f x.1).2)).setCell ⟨h5, 0, none⟩ (.int .i64 (f x.2).1)).setCell ⟨h5, 1, none⟩ (.int .i64 (f x.2).2)) h4 1 (.int .i64 (f x.1).2) := own_far (by dsimp only; omega) (own_far (by dsimp only; omega) o_h41_s0)
            refine hK.out _ _ (StayS.mk ⟨o_b0_s1.1, o_x0_s1.1, o_x1_s1.1⟩) ?_
            clear hK K cH0 fH0 cH1 fH1
            try simp only [Act.put, List.setIfInBounds_toArray, List.set_cons_zero, List.set_cons_succ]
            refine AnyS.done (by kernel_rfl) ?_ _
            go_wp2_with fail
            go_meet
            exact ⟨h4, h5, rfl, rfl, o_h40_s1, o_h41_s1, o_h50_s1, o_h51_s1, by omega, by omega, o_r0_s1, o_r1_s1, belB⟩
      · go_simp
        obtain ⟨h4, hh⟩ : ∃ h, h = wd.heap.size := ⟨_, rfl⟩
        obtain ⟨wn17, ha⟩ : ∃ x, x = wd.alloc (.cells #[.int .i64 0, .int .i64 0] 26) := ⟨_, rfl⟩
        rw [← ha]
        have o_h40_n17 : Own wn17 h4 0 (.int .i64 0) := by rw [ha, hh]; exact ⟨by simp [go_sem], by simp [go_sem]⟩
        have o_h41_n17 : Own wn17 h4 1 (.int .i64 0) := by rw [ha, hh]; exact ⟨by simp [go_sem], by simp [go_sem]⟩
        have o_b0_n17 : Own wn17 b 0 (.func (Fn.func fn) #[] caps) := by rw [ha]; exact own_alloc o_b0_d
        have o_x0_n17 : Own wn17 w.heap.size 0 (.int .i64 x.1) := by rw [ha]; exact own_alloc o_x0_d
        have o_x1_n17 : Own wn17 w.heap.size 1 (.int .i64 x.2) := by rw [ha]; exact own_alloc o_x1_d
        have o_r0_n17 : Own wn17 (w.heap.size + 1) 0 (.int .i64 0) := by rw [ha]; exact own_alloc o_r0_d
        have o_r1_n17 : Own wn17 (w.heap.size + 1) 1 (.int .i64 0) := by rw [ha]; exact own_alloc o_r1_d
        have st_n17 : St wn17 := by rw [ha]; exact SA _ _ st_d
        have lh4_b : b < h4 := by rw [hh]; exact World.block_lt_of_cell? _ _ o_b0_d.1
        have lh4_x : w.heap.size < h4 := by rw [hh]; exact World.block_lt_of_cell? _ _ o_x0_d.1
        have lh4_r : (w.heap.size + 1) < h4 := by rw [hh]; exact World.block_lt_of_cell? _ _ o_r0_d.1
        have bwn17 : Below w.heap.size w wn17 := by rw [ha]; exact bwd.alloc bwd.size _
        try rw [← hh]
        clear ha hh
        refine hK.out _ _ (StayS.mk ⟨o_b0_n17.1, o_x0_n17.1, o_x1_n17.1⟩) ?_
        clear hK K
        try simp only [Act.put, List.setIfInBounds_toArray, List.set_cons_zero, List.set_cons_succ]
        refine AnyS.two (i := 3) (j := 9) (by kernel_rfl) (AnyS.comes rfl (fun K hK => ?_)) (AnyS.comes rfl (fun K hK => ?_))
        · go_simp
          refine (HF.out x.1 wn17 fx1 st_n17).mono ?_
          rintro e wn18 ⟨rfl, hbn18⟩
          have o_b0_n18 : Own wn18 b 0 (.func (Fn.func fn) #[] caps) := own_kept hbn18 o_b0_n17
          have o_x0_n18 : Own wn18 w.heap.size 0 (.int .i64 x.1) := own_kept hbn18 o_x0_n17
          have o_x1_n18 : Own wn18 w.heap.size 1 (.int .i64 x.2) := own_kept hbn18 o_x1_n17
          have o_r0_n18 : Own wn18 (w.heap.size + 1) 0 (.int .i64 0) := own_kept hbn18 o_r0_n17
          have o_r1_n18 : Own wn18 (w.heap.size + 1) 1 (.int .i64 0) := own_kept hbn18 o_r1_n17
          have o_h40_n18 : Own wn18 h4 0 (.int .i64 0) := own_kept hbn18 o_h40_n17
          have o_h41_n18 : Own wn18 h4 1 (.int .i64 0) := own_kept hbn18 o_h41_n17
          have st_n18 : St wn18 := SK _ _ st_n17 hbn18
          have bwn18 : Below w.heap.size w wn18 := bwn17.trans (hbn18.mono bwn17.size)
          clear hbn18
          go_wp2_with fail
          refine hK.out _ _ (StayS.mk ⟨o_b0_n18.1, o_x0_n18.1, o_x1_n18.1⟩) ?_
          clear hK K
          try simp only [Act.put, List.setIfInBounds_toArray, List.set_cons_zero, List.set_cons_succ]
          refine AnyS.two (i := 7) (j := 9) (by kernel_rfl) (AnyS.comes rfl (fun K hK => ?_)) (AnyS.comes rfl (fun K hK => ?_))
          · go_simp
            refine (HF.out x.2 wn18 fx2 st_n18).mono ?_
            rintro e wn19 ⟨rfl, hbn19⟩
            have o_b0_n19 : Own wn19 b 0 (.func (Fn.func fn) #[] caps) := own_kept hbn19 o_b0_n18
            have o_x0_n19 : Own wn19 w.heap.size 0 (.int .i64 x.1) := own_kept hbn19 o_x0_n18
            have o_x1_n19 : Own wn19 w.heap.size 1 (.int .i64 x.2) := own_kept hbn19 o_x1_n18
            have o_r0_n19 : Own wn19 (w.heap.size + 1) 0 (.int .i64 0) := own_kept hbn19 o_r0_n18
            have o_r1_n19 : Own wn19 (w.heap.size + 1) 1 (.int .i64 0) := own_kept hbn19 o_r1_n18
            have o_h40_n19 : Own wn19 h4 0 (.int .i64 0) := own_kept hbn19 o_h40_n18
            have o_h41_n19 : Own wn19 h4 1 (.int .i64 0) := own_kept hbn19 o_h41_n18
            have st_n19 : St wn19 := SK _ _ st_n18 hbn19
            have bwn19 : Below w.heap.size w wn19 := bwn18.trans (hbn19.mono bwn18.size)
            clear hbn19
            go_wp2_with fail
            refine hK.out _ _ (StayS.mk ⟨o_b0_n19.1, o_x0_n19.1, o_x1_n19.1⟩) ?_
            clear hK K
            try simp only [Act.put, List.setIfInBounds_toArray, List.set_cons_zero, List.set_cons_succ]
            refine AnyS.one (i := 9) (by kernel_rfl) (AnyS.comes rfl (fun K hK => ?_))
            go_simp
            obtain ⟨h5, hh⟩ : ∃ h, h = wn19.heap.size := ⟨_, rfl⟩
            obtain ⟨wn20, ha⟩ : ∃ x, x = wn19.alloc (.cells #[.int .i64 0, .int .i64 0] 26) := ⟨_, rfl⟩
            rw [← ha]
            have o_h50_n20 : Own wn20 h5 0 (.int .i64 0) := by rw [ha, hh]; exact ⟨by simp [go_sem], by simp [go_sem]⟩
            have o_h51_n20 : Own wn20 h5 1 (.int .i64 0) := by rw [ha, hh]; exact ⟨by simp [go_sem], by simp [go_sem]⟩
            have o_b0_n20 : Own wn20 b 0 (.func (Fn.func fn) #[] caps) := by rw [ha]; exact own_alloc o_b0_n19
            have o_x0_n20 : Own wn20 w.heap.size 0 (.int .i64 x.1) := by rw [ha]; exact own_alloc o_x0_n19
            have o_x1_n20 : Own wn20 w.heap.size 1 (.int .i64 x.2) := by rw [ha]; exact own_alloc o_x1_n19
            have o_r0_n20 : Own wn20 (w.heap.size + 1) 0 (.int .i64 0) := by rw [ha]; exact own_alloc o_r0_n19
            have o_r1_n20 : Own wn20 (w.heap.size + 1) 1 (.int .i64 0) := by rw [ha]; exact own_alloc o_r1_n19
            have o_h40_n20 : Own wn20 h4 0 (.int .i64 0) := by rw [ha]; exact own_alloc o_h40_n19
            have o_h41_n20 : Own wn20 h4 1 (.int .i64 0) := by rw [ha]; exact own_alloc o_h41_n19
            have st_n20 : St wn20 := by rw [ha]; exact SA _ _ st_n19
            have lh5_b : b < h5 := by rw [hh]; exact World.block_lt_of_cell? _ _ o_b0_n19.1
            have lh5_x : w.heap.size < h5 := by rw [hh]; exact World.block_lt_of_cell? _ _ o_x0_n19.1
            have lh5_r : (w.heap.size + 1) < h5 := by rw [hh]; exact World.block_lt_of_cell? _ _ o_r0_n19.1
            have lh5_h4 : h4 < h5 := by rw [hh]; exact World.block_lt_of_cell? _ _ o_h40_n19.1
            have bwn20 : Below w.heap.size w wn20 := by rw [ha]; exact bwn19.alloc bwn19.size _
            try rw [← hh]
            clear ha hh
            refine hK.out _ _ (StayS.mk ⟨o_b0_n20.1, o_x0_n20.1, o_x1_n20.1⟩) ?_
            clear hK K
            try simp only [Act.put, List.setIfInBounds_toArray, List.set_cons_zero, List.set_cons_succ]
            have cH0 := (o_h40_n20).1
            have fH0 := (o_h40_n20).2
            have cH1 := (o_h41_n20).1
            have fH1 := (o_h41_n20).2
            refine AnyS.one (i := 10) (by kernel_rfl) (AnyS.comes rfl (fun K hK => ?_))
            go_simp
            have o_b0_s0 : Own ((wn20.setCell ⟨h4, 0, none⟩ (.int .i64 (f x.1).1)).setCell ⟨h4, 1, none⟩ (.int .i64 (f x.1).2)) b 0 (.func (Fn.func fn) #[] caps) := own_far (by dsimp only; omega) (own_far (by dsimp only; omega) o_b0_n20)
            have o_x0_s0 : Own ((wn20.setCell ⟨h4, 0, none⟩ (.int .i64 (f x.1).1)).setCell ⟨h4, 1, none⟩ (.int .i64 (f x.1).2)) w.heap.size 0 (.int .i64 x.1) := own_far (by dsimp only; omega) (own_far (by dsimp only; omega) o_x0_n20)
            have o_x1_s0 : Own ((wn20.setCell ⟨h4, 0, none⟩ (.int .i64 (f x.1).1)).setCell ⟨h4, 1, none⟩ (.int .i64 (f x.1).2)) w.heap.size 1 (.int .i64 x.2) := own_far (by dsimp only; omega) (own_far (by dsimp only; omega) o_x1_n20)
            have o_r0_s0 : Own ((wn20.setCell ⟨h4, 0, none⟩ (.int .i64 (f x.1).1)).setCell ⟨h4, 1, none⟩ (.int .i64 (f x.1).2)) (w.heap.size + 1) 0 (.int .i64 0) := own_far (by dsimp only; omega) (own_far (by dsimp only; omega) o_r0_n20)
            have o_r1_s0 : Own ((wn20.setCell ⟨h4, 0, none⟩ (.int .i64 (f x.1).1)).setCell ⟨h4, 1, none⟩ (.int .i64 (f x.1).2)) (w.heap.size + 1) 1 (.int .i64 0) := own_far (by dsimp only; omega) (own_far (by dsimp only; omega) o_r1_n20)
            have o_h40_s0 : Own ((wn20.setCell ⟨h4, 0, none⟩ (.int .i64 (f x.1).1)).setCell ⟨h4, 1, none⟩ (.int .i64 (f x.1).2)) h4 0 (.int .i64 (f x.1).1) := own_next (by decide) (own_put o_h40_n20)
            have o_h41_s0 : Own ((wn20.setCell ⟨h4, 0, none⟩ (.int .i64 (f x.1).1)).setCell ⟨h4, 1, none⟩ (.int .i64 (f x.1).2)) h4 1 (.int .i64 (f x.1).2) := own_put (own_next (by decide) o_h41_n20)
            have o_h50_s0 : Own ((wn20.setCell ⟨h4, 0, none⟩ (.int .i64 (f x.1).1)).setCell ⟨h4, 1, none⟩ (.int .i64 (f x.1).2)) h5 0 (.int .i64 0) := own_far (by dsimp only; omega) (own_far (by dsimp only; omega) o_h50_n20)
            have o_h51_s0 : Own ((wn20.setCell ⟨h4, 0, none⟩ (.int .i64 (f x.1).1)).setCell ⟨h4, 1, none⟩ (.int .i64 (f x.1).2)) h5 1 (.int .i64 0) := own_far (by dsimp only; omega) (own_far (by dsimp only; omega) o_h51_n20)
            refine hK.out _ _ (StayS.mk ⟨o_b0_s0.1, o_x0_s0.1, o_x1_s0.1⟩) ?_
            clear hK K cH0 fH0 cH1 fH1
            try simp only [Act.put, List.setIfInBounds_toArray, List.set_cons_zero, List.set_cons_succ]
            have cH0 := (o_h50_s0).1
            have fH0 := (o_h50_s0).2
            have cH1 := (o_h51_s0).1
            have fH1 := (o_h51_s0).2
            refine AnyS.one (i := 11) (by kernel_rfl) (AnyS.comes rfl (fun K hK => ?_))
            go_simp
            have o_b0_s1 : Own ((((wn20.setCell ⟨h4, 0, none⟩ (.int .i64 (f x.1).1)).setCell ⟨h4, 1, none⟩ (.int .i64 (f x.1).2)).setCell ⟨h5, 0, none⟩ (.int .i64 (f x.2).1)).setCell ⟨h5, 1, none⟩ (.int .i64 (f x.2).2)) b 0 (.func (Fn.func fn) #[] caps) := own_far (by dsimp only; omega) (own_far (by dsimp only; omega) o_b0_s0)
            have o_x0_s1 : Own ((((wn20.setCell ⟨h4, 0, none⟩ (.int .i64 (f x.1).1)).setCell ⟨h4, 1, none⟩ (.int .i64 (f x.1).2)).setCell ⟨h5, 0, none⟩ (.int .i64 (f x.2).1)).setCell ⟨h5, 1, none⟩ (.int .i64 (f x.2).2)) w.heap.size 0 (.int .i64 x.1) := own_far (by dsimp only; omega) (own_far (by dsimp only; omega) o_x0_s0)
            have o_x1_s1 : Own ((((wn20.setCell ⟨h4, 0, none⟩ (.int .i64 (f x.1).1)).setCell ⟨h4, 1, none⟩ (.int .i64 (f x.1).2)).setCell ⟨h5, 0, none⟩ (.int .i64 (f x.2).1)).setCell ⟨h5, 1, none⟩ (.int .i64 (f x.2).2)) w.heap.size 1 (.int .i64 x.2) := own_far (by dsimp only; omega) (own_far (by dsimp only; omega) o_x1_s0)
            have o_r0_s1 : Own ((((wn20.setCell ⟨h4, 0, none⟩ (.int .i64 (f x.1).1)).setCell ⟨h4, 1, none⟩ (.int .i64 (f x.1).2)).setCell ⟨h5, 0, none⟩ (.int .i64 (f x.2).1)).setCell ⟨h5, 1, none⟩ (.int .i64 (f x.2).2)) (w.heap.size + 1) 0 (.int .i64 0) := own_far (by dsimp only; omega) (own_far (by dsimp only; omega) o_r0_s0)
            have o_r1_s1 : Own ((((wn20.setCell ⟨h4, 0, none⟩ (.int .i64 (f x.1).1)).setCell ⟨h4, 1, none⟩ (.int .i64 (f x.1).2)).setCell ⟨h5, 0, none⟩ (.int .i64 (f x.2).1)).setCell ⟨h5, 1, none⟩ (.int .i64 (f x.2).2)) (w.heap.size + 1) 1 (.int .i64 0) := own_far (by dsimp only; omega) (own_far (by dsimp only; omega) o_r1_s0)
            have o_h40_s1 : Own ((((wn20.setCell ⟨h4, 0, none⟩ (.int .i64 (f x.1).1)).setCell ⟨h4, 1, none⟩ (.int .i64 (f x.1).2)).setCell ⟨h5, 0, none⟩ (.int .i64 (f x.2).1)).setCell ⟨h5, 1, none⟩ (.int .i64 (f x.2).2)) h4 0 (.int .i64 (f x.1).1) := own_far (by dsimp only; omega) (own_far (by dsimp only; omega) o_h40_s0)
            have o_h41_s1 : Own ((((wn20.setCell ⟨h4, 0, none⟩ (.int .i64 (f x.1).1)).setCell ⟨h4, 1, none⟩ (.int .i64 (f x.1).2)).setCell ⟨h5, 0, none⟩ (.int .i64 (f x.2).1)).setCell ⟨h5, 1, none⟩ (.int .i64 (f x.2).2)) h4 1 (.int .i64 (f x.1).2) := own_far (by dsimp only; omega) (own_far (by dsimp only; omega) o_h41_s0)
            have o_h50_s1 : Own ((((wn20.setCell ⟨h4, 0, none⟩ (.int .i64 (f x.1).1)).setCell ⟨h4, 1, none⟩ (.int .i64 (f x.1).2)).setCell ⟨h5, 0, none⟩ (.int .i64 (f x.2).1)).setCell ⟨h5, 1, none⟩ (.int .i64 (f x.2).2)) h5 0 (.int .i64 (f x.2).1) := own_next (by decide) (own_put o_h50_s0)
            have o_h51_s1 : Own ((((wn20.setCell ⟨h4, 0, none⟩ (.int .i64 (f x.1).1)).setCell ⟨h4, 1, none⟩ (.int .i64 (f x.1).2)).setCell ⟨h5, 0, none⟩ (.int .i64 (f x.2).1)).setCell ⟨h5, 1, none⟩ (.int .i64 (f x.2).2)) h5 1 (.int .i64 (f x.2).2) := own_put (own_next (by decide) o_h51_s0)
            refine hK.out _ _ (StayS.mk ⟨o_b0_s1.1, o_x0_s1.1, o_x1_s1.1⟩) ?_
            clear hK K cH0 fH0 cH1 fH1
            try simp only [Act.put, List.setIfInBounds_toArray, List.set_cons_zero, List.set_cons_succ]
            refine AnyS.done (by kernel_rfl) ?_ _
            go_wp2_with fail
            go_meet
            exact ⟨h4, h5, rfl, rfl, o_h40_s1, o_h41_s1, o_h50_s1, o_h51_s1, by omega, by omega, o_r0_s1, o_r1_s1, belB⟩
          · go_simp
            obtain ⟨h5, hh⟩ : ∃ h, h = wn18.heap.size := ⟨_, rfl⟩
            obtain ⟨wn21, ha⟩ : ∃ x, x = wn18.alloc (.cells #[.int .i64 0, .int .i64 0] 26) := ⟨_, rfl⟩
            rw [← ha]
            have o_h50_n21 : Own wn21 h5 0 (.int .i64 0) := by rw [ha, hh]; exact ⟨by simp [go_sem], by simp [go_sem]⟩
            have o_h51_n21 : Own wn21 h5 1 (.int .i64 0) := by rw [ha, hh]; exact ⟨by simp [go_sem], by simp [go_sem]⟩
            have o_b0_n21 : Own wn21 b 0 (.func (Fn.func fn) #[] caps) := by rw [ha]; exact own_alloc o_b0_n18
            have o_x0_n21 : Own wn21 w.heap.size 0 (.int .i64 x.1) := by rw [ha]; exact own_alloc o_x0_n18
            have o_x1_n21 : Own wn21 w.heap.size 1 (.int .i64 x.2) := by rw [ha]; exact own_alloc o_x1_n18
            have o_r0_n21 : Own wn21 (w.heap.size + 1) 0 (.int .i64 0) := by rw [ha]; exact own_alloc o_r0_n18
            have o_r1_n21 : Own wn21 (w.heap.size + 1) 1 (.int .i64 0) := by rw [ha]; exact own_alloc o_r1_n18
            have o_h40_n21 : Own wn21 h4 0 (.int .i64 0) := by rw [ha]; exact own_alloc o_h40_n18
            have o_h41_n21 : Own wn21 h4 1 (.int .i64 0) := by rw [ha]; exact own_alloc o_h41_n18
            have st_n21 : St wn21 := by rw [ha]; exact SA _ _ st_n18
            have lh5_b : b < h5 := by rw [hh]; exact World.block_lt_of_cell? _ _ o_b0_n18.1
            have lh5_x : w.heap.size < h5 := by rw [hh]; exact World.block_lt_of_cell? _ _ o_x0_n18.1
            have lh5_r : (w.heap.size + 1) < h5 := by rw [hh]; exact World.block_lt_of_cell? _ _ o_r0_n18.1
            have lh5_h4 : h4 < h5 := by rw [hh]; exact World.block_lt_of_cell? _ _ o_h40_n18.1
            have bwn21 : Below w.heap.size w wn21 := by rw [ha]; exact bwn18.alloc bwn18.size _
            try rw [← hh]
            clear ha hh
            refine hK.out _ _ (StayS.mk ⟨o_b0_n21.1, o_x0_n21.1, o_x1_n21.1⟩) ?_
            clear hK K
            try simp only [Act.put, List.setIfInBounds_toArray, List.set_cons_zero, List.set_cons_succ]
            refine AnyS.one (i := 7) (by kernel_rfl) (AnyS.comes rfl (fun K hK => ?_))
            go_simp
            refine (HF.out x.2 wn21 fx2 st_n21).mono ?_
            rintro e wn22 ⟨rfl, hbn22⟩
            have o_b0_n22 : Own wn22 b 0 (.func (Fn.func fn) #[] caps) := own_kept hbn22 o_b0_n21
            have o_x0_n22 : Own wn22 w.heap.size 0 (.int .i64 x.1) := own_kept hbn22 o_x0_n21
            have o_x1_n22 : Own wn22 w.heap.size 1 (.int .i64 x.2) := own_kept hbn22 o_x1_n21
            have o_r0_n22 : Own wn22 (w.heap.size + 1) 0 (.int .i64 0) := own_kept hbn22 o_r0_n21
            have o_r1_n22 : Own wn22 (w.heap.size + 1) 1 (.int .i64 0) := own_kept hbn22 o_r1_n21
            have o_h40_n22 : Own wn22 h4 0 (.int .i64 0) := own_kept hbn22 o_h40_n21
            have o_h41_n22 : Own wn22 h4 1 (.int .i64 0) := own_kept hbn22 o_h41_n21
            have o_h50_n22 : Own wn22 h5 0 (.int .i64 0) := own_kept hbn22 o_h50_n21
            have o_h51_n22 : Own wn22 h5 1 (.int .i64 0) := own_kept hbn22 o_h51_n21
            have st_n22 : St wn22 := SK _ _ st_n21 hbn22
            have bwn22 : Below w.heap.size w wn22 := bwn21.trans (hbn22.mono bwn21.size)
            clear hbn22
            go_wp2_with fail
            refine hK.out _ _ (StayS.mk ⟨o_b0_n22.1, o_x0_n22.1, o_x1_n22.1⟩) ?_
            clear hK K
            try simp only [Act.put, List.setIfInBounds_toArray, List.set_cons_zero, List.set_cons_succ]
            have cH0 := (o_h40_n22).1
            have fH0 := (o_h40_n22).2
            have cH1 := (o_h41_n22).1
            have fH1 := (o_h41_n22).2
            refine AnyS.one (i := 10) (by kernel_rfl) (AnyS.comes rfl (fun K hK => ?_))
            go_simp
            have o_b0_s0 : Own ((wn22.setCell ⟨h4, 0, none⟩ (.int .i64 (f x.1).1)).setCell ⟨h4, 1, none⟩ (.int .i64 (f x.1).2)) b 0 (.func (Fn.func fn) #[] caps) := own_far (by dsimp only; omega) (own_far (by dsimp only; omega) o_b0_n22)
            have o_x0_s0 : Own ((wn22.setCell ⟨h4, 0, none⟩ (.int .i64 (f x.1).1)).setCell ⟨h4, 1, none⟩ (.int .i64 (f x.1).2)) w.heap.size 0 (.int .i64 x.1) := own_far (by dsimp only; omega) (own_far (by dsimp only; omega) o_x0_n22)
            have o_x1_s0 : Own ((wn22.setCell ⟨h4, 0, none⟩ (.int .i64 (f x.1).1)).setCell ⟨h4, 1, none⟩ (.int .i64 (f x.1).2)) w.heap.size 1 (.int .i64 x.2) := own_far (by dsimp only; omega) (own_far (by dsimp only; omega) o_x1_n22)
            have o_r0_s0 : Own ((wn22.setCell ⟨h4, 0, none⟩ (.int .i64 (f x.1).1)).setCell ⟨h4, 1, none⟩ (.int .i64 (f x.1).2)) (w.heap.size + 1) 0 (.int .i64 0) := own_far (by dsimp only; omega) (own_far (by dsimp only; omega) o_r0_n22)
            have o_r1_s0 : Own ((wn22.setCell ⟨h4, 0, none⟩ (.int .i64 (f x.1).1)).setCell ⟨h4, 1, none⟩ (.int .i64 (f x.1).2)) (w.heap.size + 1) 1 (.int .i64 0) := own_far (by dsimp only; omega) (own_far (by dsimp only; omega) o_r1_n22)
            have o_h40_s0 : Own ((wn22.setCell ⟨h4, 0, none⟩ (.int .i64 (f x.1).1)).setCell ⟨h4, 1, none⟩ (.int .i64 (f x.1).2)) h4 0 (.int .i64 (f x.1).1) := own_next (by decide) (own_put o_h40_n22)
            have o_h41_s0 : Own ((wn22.setCell ⟨h4, 0, none⟩ (.int .i64 (f x.1).1)).setCell ⟨h4, 1, none⟩ (.int .i64 (f x.1).2)) h4 1 (.int .i64 (f x.1).2) := own_put (own_next (by decide) o_h41_n22)
            have o_h50_s0 : Own ((wn22.setCell ⟨h4, 0, none⟩ (.int .i64 (f x.1).1)).setCell ⟨h4, 1, none⟩ (.int .i64 (f x.1).2)) h5 0 (.int .i64 0) := own_far (by dsimp only; omega) (own_far (by dsimp only; omega) o_h50_n22)
            have o_h51_s0 : Own ((wn22.setCell ⟨h4, 0, none⟩ (.int .i64 (f x.1).1)).setCell ⟨h4, 1, none⟩ (.int .i64 (f x.1).2)) h5 1 (.int .i64 0) := own_far (by dsimp only; omega) (own_far (by dsimp only; omega) o_h51_n22)
            refine hK.out _ _ (StayS.mk ⟨o_b0_s0.1, o_x0_s0.1, o_x1_s0.1⟩) ?_
            clear hK K cH0 fH0 cH1 fH1
            try simp only [Act.put, List.setIfInBounds_toArray, List.set_cons_zero, List.set_cons_succ]
            have cH0 := (o_h50_s0).1
            have fH0 := (o_h50_s0).2
            have cH1 := (o_h51_s0).1
            have fH1 := (o_h51_s0).2
            refine AnyS.one (i := 11) (by kernel_rfl) (AnyS.comes rfl (fun K hK => ?_))
            go_simp
            have o_b0_s1 : Own ((((wn22.setCell ⟨h4, 0, none⟩ (.int .i64 (f x.1).1)).setCell ⟨h4, 1, none⟩ (.int .i64 (f x.1).2)).setCell ⟨h5, 0, none⟩ (.int .i64 (f x.2).1)).setCell ⟨h5, 1, none⟩ (.int .i64 (f x.2).2)) b 0 (.func (Fn.func fn) #[] caps) := own_far (by dsimp only; omega) (own_far (by dsimp only; omega) o_b0_s0)
            have o_x0_s1 : Own ((((wn22.setCell ⟨h4, 0, none⟩ (.int .i64 (f x.1).1)).setCell ⟨h4, 1, none⟩ (.int .i64 (f x.1).2)).setCell ⟨h5, 0, none⟩ (.int .i64 (f x.2).1)).setCell ⟨h5, 1, none⟩ (.int .i64 (f x.2).2)) w.heap.size 0 (.int .i64 x.1) := own_far (by dsimp only; omega) (own_far (by dsimp only; omega) o_x0_s0)
            have o_x1_s1 : Own ((((wn22.setCell ⟨h4, 0, none⟩ (.int .i64 (f x.1).1)).setCell ⟨h4, 1, none⟩ (.int .i64 (f x.1).2)).setCell ⟨h5, 0, none⟩ (.int .i64 (f x.2).1)).setCell ⟨h5, 1, none⟩ (.int .i64 (f x.2).2)) w.heap.size 1 (.int .i64 x.2) := own_far (by dsimp only; omega) (own_far (by dsimp only; omega) o_x1_s0)
            have o_r0_s1 : Own ((((wn22.setCell ⟨h4, 0, none⟩ (.int .i64 (f x.1).1)).setCell ⟨h4, 1, none⟩ (.int .i64 (f x.1).2)).setCell ⟨h5, 0, none⟩ (.int .i64 (f x.2).1)).setCell ⟨h5, 1, none⟩ (.int .i64 (f x.2).2)) (w.heap.size + 1) 0 (.int .i64 0) := own_far (by dsimp only; omega) (own_far (by dsimp only; omega) o_r0_s0)
            have o_r1_s1 : Own ((((wn22.setCell ⟨h4, 0, none⟩ (.int .i64 (f x.1).1)).setCell ⟨h4, 1, none⟩ (.int .i64 (f x.1).2)).setCell ⟨h5, 0, none⟩ (.int .i64 (f x.2).1)).setCell ⟨h5, 1, none⟩ (.int .i64 (f x.2).2)) (w.heap.size + 1) 1 (.int .i64 0) := own_far (by dsimp only; omega) (own_far (by dsimp only; omega) o_r1_s0)
            have o_h40_s1 : Own ((((wn22.setCell ⟨h4, 0, none⟩ (.int .i64 (f x.1).1)).setCell ⟨h4, 1, none⟩ (.int .i64 (f x.1).2)).setCell ⟨h5, 0, none⟩ (.int .i64 (f x.2).1)).setCell ⟨h5, 1, none⟩ (.int .i64 (f x.2).2)) h4 0 (.int .i64 (f x.1).1) := own_far (by dsimp only; omega) (own_far (by dsimp only; omega) o_h40_s0)
            have o_h41_s1 : Own ((((wn22.setCell ⟨h4, 0, none⟩ (.int .i64 (f x.1).1)).setCell ⟨h4, 1, none⟩ (.int .i64 (f x.1).2)).setCell ⟨h5, 0, none⟩ (.int .i64 (f x.2).1)).setCell ⟨h5, 1, none⟩ (.int .i64 (f x.2).2)) h4 1 (.int .i64 (f x.1).2) := own_far (by dsimp only; omega) (own_far (by dsimp only; omega) o_h41_s0)
            have o_h50_s1 : Own ((((wn22.setCell ⟨h4, 0, none⟩ (.int .i64 (f x.1).1)).setCell ⟨h4, 1, none⟩ (.int .i64 (f x.1).2)).setCell ⟨h5, 0, none⟩ (.int .i64 (f x.2).1)).setCell ⟨h5, 1, none⟩ (.int .i64 (f x.2).2)) h5 0 (.int .i64 (f x.2).1) := own_next (by decide) (own_put o_h50_s0)
            have o_h51_s1 : Own ((((wn22.setCell ⟨h4, 0, none⟩ (.int .i64 (f x.1).1)).setCell ⟨h4, 1, none⟩ (.int .i64 (f x.1).2)).setCell ⟨h5, 0, none⟩ (.int .i64 (f x.2).1)).setCell ⟨h5, 1, none⟩ (.int .i64 (f x.2).2)) h5 1 (.int .i64 (f x.2).2) := own_put (own_next (by decide) o_h51_s0)
            refine hK.out _ _ (StayS.mk ⟨o_b0_s1.1, o_x0_s1.1, o_x1_s1.1⟩) ?_
            clear hK K cH0 fH0 cH1 fH1
            try simp only [Act.put, List.setIfInBounds_toArray, List.set_cons_zero, List.set_cons_succ]
            refine AnyS.done (by kernel_rfl) ?_ _
            go_wp2_with fail
            go_meet
            exact ⟨h4, h5, rfl, rfl, o_h40_s1, o_h41_s1, o_h50_s1, o_h51_s1, by omega, by omega, o_r0_s1, o_r1_s1, belB⟩
        · go_simp
          obtain ⟨h5, hh⟩ : ∃ h, h = wn17.heap.size := ⟨_, rfl⟩
          obtain ⟨wn23, ha⟩ : ∃ x, x = wn17.alloc (.cells #[.int .i64 0, .int .i64 0] 26) := ⟨_, rfl⟩
          rw [← ha]
          have o_h50_n23 : Own wn23 h5 0 (.int .i64 0) := by rw [ha, hh]; exact ⟨by simp [go_sem], by simp [go_sem]⟩
          have o_h51_n23 : Own wn23 h5 1 (.int .i64 0) := by rw [ha, hh]; exact ⟨by simp [go_sem], by simp [go_sem]⟩
          have o_b0_n23 : Own wn23 b 0 (.func (Fn.func fn) #[] caps) := by rw [ha]; exact own_alloc o_b0_n17
          have o_x0_n23 : Own wn23 w.heap.size 0 (.int .i64 x.1) := by rw [ha]; exact own_alloc o_x0_n17
          have o_x1_n23 : Own wn23 w.heap.size 1 (.int .i64 x.2) := by rw [ha]; exact own_alloc o_x1_n17
          have o_r0_n23 : Own wn23 (w.heap.size + 1) 0 (.int .i64 0) := by rw [ha]; exact own_alloc o_r0_n17
          have o_r1_n23 : Own wn23 (w.heap.size + 1) 1 (.int .i64 0) := by rw [ha]; exact own_alloc o_r1_n17
          have o_h40_n23 : Own wn23 h4 0 (.int .i64 0) := by rw [ha]; exact own_alloc o_h40_n17
          have o_h41_n23 : Own wn23 h4 1 (.int .i64 0) := by rw [ha]; exact own_alloc o_h41_n17
          have st_n23 : St wn23 := by rw [ha]; exact SA _ _ st_n17
          have lh5_b : b < h5 := by rw [hh]; exact World.block_lt_of_cell? _ _ o_b0_n17.1
          have lh5_x : w.heap.size < h5 := by rw [hh]; exact World.block_lt_of_cell? _ _ o_x0_n17.1
          have lh5_r : (w.heap.size + 1) < h5 := by rw [hh]; exact World.block_lt_of_cell? _ _ o_r0_n17.1
          have lh5_h4 : h4 < h5 := by rw [hh]; exact World.block_lt_of_cell? _ _ o_h40_n17.1
          have bwn23 : Below w.heap.size w wn23 := by rw [ha]; exact bwn17.alloc bwn17.size _
          try rw [← hh]
          clear ha hh
          refine hK.out _ _ (StayS.mk ⟨o_b0_n23.1, o_x0_n23.1, o_x1_n23.1⟩) ?_
          clear hK K
          try simp only [Act.put, List.setIfInBounds_toArray, List.set_cons_zero, List.set_cons_succ]
          refine AnyS.one (i := 3) (by kernel_rfl) (AnyS.comes rfl (fun K hK => ?_))
          go_simp
          refine (HF.out x.1 wn23 fx1 st_n23).mono ?_
          rintro e wn24 ⟨rfl, hbn24⟩
          have o_b0_n24 : Own wn24 b 0 (.func (Fn.func fn) #[] caps) := own_kept hbn24 o_b0_n23
          have o_x0_n24 : Own wn24 w.heap.size 0 (.int .i64 x.1) := own_kept hbn24 o_x0_n23
          have o_x1_n24 : Own wn24 w.heap.size 1 (.int .i64 x.2) := own_kept hbn24 o_x1_n23
          have o_r0_n24 : Own wn24 (w.heap.size + 1) 0 (.int .i64 0) := own_kept hbn24 o_r0_n23
          have o_r1_n24 : Own wn24 (w.heap.size + 1) 1 (.int .i64 0) := own_kept hbn24 o_r1_n23
          have o_h40_n24 : Own wn24 h4 0 (.int .i64 0) := own_kept hbn24 o_h40_n23
          have o_h41_n24 : Own wn24 h4 1 (.int .i64 0) := own_kept hbn24 o_h41_n23
          have o_h50_n24 : Own wn24 h5 0 (.int .i64 0) := own_kept hbn24 o_h50_n23
          have o_h51_n24 : Own wn24 h5 1 (.int .i64 0) := own_kept hbn24 o_h51_n23
          have st_n24 : St wn24 := SK _ _ st_n23 hbn24
          have bwn24 : Below w.heap.size w wn24 := bwn23.trans (hbn24.mono bwn23.size)
          clear hbn24
          go_wp2_with fail
          refine hK.out _ _ (StayS.mk ⟨o_b0_n24.1, o_x0_n24.1, o_x1_n24.1⟩) ?_
          clear hK K
          try simp only [Act.put, List.setIfInBounds_toArray, List.set_cons_zero, List.set_cons_succ]
          refine AnyS.one (i := 7) (by kernel_rfl) (AnyS.comes rfl (fun K hK => ?_))
          go_simp
          refine (HF.out x.2 wn24 fx2 st_n24).mono ?_
          rintro e wn25 ⟨rfl, hbn25⟩
          have o_b0_n25 : Own wn25 b 0 (.func (Fn.func fn) #[] caps) := own_kept hbn25 o_b0_n24
          have o_x0_n25 : Own wn25 w.heap.size 0 (.int .i64 x.1) := own_kept hbn25 o_x0_n24
          have o_x1_n25 : Own wn25 w.heap.size 1 (.int .i64 x.2) := own_kept hbn25 o_x1_n24
          have o_r0_n25 : Own wn25 (w.heap.size + 1) 0 (.int .i64 0) := own_kept hbn25 o_r0_n24
          have o_r1_n25 : Own wn25 (w.heap.size + 1) 1 (.int .i64 0) := own_kept hbn25 o_r1_n24
          have o_h40_n25 : Own wn25 h4 0 (.int .i64 0) := own_kept hbn25 o_h40_n24
          have o_h41_n25 : Own wn25 h4 1 (.int .i64 0) := own_kept hbn25 o_h41_n24
          have o_h50_n25 : Own wn25 h5 0 (.int .i64 0) := own_kept hbn25 o_h50_n24
          have o_h51_n25 : Own wn25 h5 1 (.int .i64 0) := own_kept hbn25 o_h51_n24
          have st_n25 : St wn25 := SK _ _ st_n24 hbn25
          have bwn25 : Below w.heap.size w wn25 := bwn24.trans (hbn25.mono bwn24.size)
          clear hbn25
          go_wp2_with fail
          refine hK.out _ _ (StayS.mk ⟨o_b0_n25.1, o_x0_n25.1, o_x1_n25.1⟩) ?_
          clear hK K
          try simp only [Act.put, List.setIfInBounds_toArray, List.set_cons_zero, List.set_cons_succ]
          have cH0 := (o_h40_n25).1
          have fH0 := (o_h40_n25).2
          have cH1 := (o_h41_n25).1
          have fH1 := (o_h41_n25).2
          refine AnyS.one (i := 10) (by kernel_rfl) (AnyS.comes rfl (fun K hK => ?_))
          go_simp
          have o_b0_s0 : Own ((wn25.setCell ⟨h4, 0, none⟩ (.int .i64 (f x.1).1)).setCell ⟨h4, 1, none⟩ (.int .i64 (f x.1).2)) b 0 (.func (Fn.func fn) #[] caps) := own_far (by dsimp only; omega) (own_far (by dsimp only; omega) o_b0_n25)
          have o_x0_s0 : Own ((wn25.setCell ⟨h4, 0, none⟩ (.int .i64 (f x.1).1)).setCell ⟨h4, 1, none⟩ (.int .i64 (f x.1).2)) w.heap.size 0 (.int .i64 x.1) := own_far (by dsimp only; omega) (own_far (by dsimp only; omega) o_x0_n25)
          have o_x1_s0 : Own ((wn25.setCell ⟨h4, 0, none⟩ (.int .i64 (f x.1).1)).setCell ⟨h4, 1, none⟩ (.int .i64 (f x.1).2)) w.heap.size 1 (.int .i64 x.2) := own_far (by dsimp only; omega) (own_far (by dsimp only; omega) o_x1_n25)
          have o_r0_s0 : Own ((wn25.setCell ⟨h4, 0, none⟩ (.int .i64 (f x.1).1)).setCell ⟨h4, 1, none⟩ (.int .i64 (f x.1).2)) (w.heap.size + 1) 0 (.int .i64 0) := own_far (by dsimp only; omega) (own_far (by dsimp only; omega) o_r0_n25)
          have o_r1_s0 : Own ((wn25.setCell ⟨h4, 0, none⟩ (.int .i64 (f x.1).1)).setCell ⟨h4, 1, none⟩ (.int .i64 (f x.1).2)) (w.heap.size + 1) 1 (.int .i64 0) := own_far (by dsimp only; omega) (own_far (by dsimp only; omega) o_r1_n25)
          have o_h40_s0 : Own ((wn25.setCell ⟨h4, 0, none⟩ (.int .i64 (f x.1).1)).setCell ⟨h4, 1, none⟩ (.int .i64 (f x.1).2)) h4 0 (.int .i64 (f x.1).1) := own_next (by decide) (own_put o_h40_n25)
          have o_h41_s0 : Own ((wn25.setCell ⟨h4, 0, none⟩ (.int .i64 (f x.1).1)).setCell ⟨h4, 1, none⟩ (.int .i64 (f x.1).2)) h4 1 (.int .i64 (f x.1).2) := own_put (own_next (by decide) o_h41_n25)
          have o_h50_s0 : Own ((wn25.setCell ⟨h4, 0, none⟩ (.int .i64 (f x.1).1)).setCell ⟨h4, 1, none⟩ (.int .i64 (f x.1).2)) h5 0 (.int .i64 0) := own_far (by dsimp only; omega) (own_far (by dsimp only; omega) o_h50_n25)
          have o_h51_s0 : Own ((wn25.setCell ⟨h4, 0, none⟩ (.int .i64 (f x.1).1)).setCell ⟨h4, 1, none⟩ (.int .i64 (f x.1).2)) h5 1 (.int .i64 0) := own_far (by dsimp only; omega) (own_far (by dsimp only; omega) o_h51_n25)
          refine hK.out _ _ (StayS.mk ⟨o_b0_s0.1, o_x0_s0.1, o_x1_s0.1⟩) ?_
          clear hK K cH0 fH0 cH1 fH1
          try simp only [Act.put, List.setIfInBounds_toArray, List.set_cons_zero, List.set_cons_succ]
          have cH0 := (o_h50_s0).1
          have fH0 := (o_h50_s0).2
          have cH1 := (o_h51_s0).1
          have fH1 := (o_h51_s0).2
          refine AnyS.one (i := 11) (by kernel_rfl) (AnyS.comes rfl (fun K hK => ?_))
          go_simp
          have o_b0_s1 : Own ((((wn25.setCell ⟨h4, 0, none⟩ (.int .i64 (f x.1).1)).setCell ⟨h4, 1, none⟩ (.int .i64 (f x.1).2)).setCell ⟨h5, 0, none⟩ (.int .i64 (f x.2).1)).setCell ⟨h5, 1, none⟩ (.int .i64 (f x.2).2)) b 0 (.func (Fn.func fn) #[] caps) := own_far (by dsimp only; omega) (own_far (by dsimp only; omega) o_b0_s0)
          have o_x0_s1 : Own ((((wn25.setCell ⟨h4, 0, none⟩ (.int .i64 (f x.1).1)).setCell ⟨h4, 1, none⟩ (.int .i64 (f x.1).2)).setCell ⟨h5, 0, none⟩ (.int .i64 (f x.2).1)).setCell ⟨h5, 1, none⟩ (.int .i64 (f x.2).2)) w.heap.size 0 (.int .i64 x.1) := own_far (by dsimp only; omega) (own_far (by dsimp only; omega) o_x0_s0)
          have o_x1_s1 : Own ((((wn25.setCell ⟨h4, 0, none⟩ (.int .i64 (f x.1).1)).setCell ⟨h4, 1, none⟩ (.int .i64 (f x.1).2)).setCell ⟨h5, 0, none⟩ (.int .i64 (f x.2).1)).setCell ⟨h5, 1, none⟩ (.int .i64 (f x.2).2)) w.heap.size 1 (.int .i64 x.2) := own_far (by dsimp only; omega) (own_far (by dsimp only; omega) o_x1_s0)
          have o_r0_s1 : Own ((((wn25.setCell ⟨h4, 0, none⟩ (.int .i64 (f x.1).1)).setCell ⟨h4, 1, none⟩ (.int .i64 (f x.1).2)).setCell ⟨h5, 0, none⟩ (.int .i64 (f x.2).1)).setCell ⟨h5, 1, none⟩ (.int .i64 (f x.2).2)) (w.heap.size + 1) 0 (.int .i64 0) := own_far (by dsimp only; omega) (own_far (by dsimp only; omega) o_r0_s0)
          have o_r1_s1 : Own ((((wn25.setCell ⟨h4, 0, none⟩ (.int .i64 (f x.1).1)).setCell ⟨h4, 1, none⟩ (.int .i64 (f x.1).2)).setCell ⟨h5, 0, none⟩ (.int .i64 (f x.2).1)).setCell ⟨h5, 1, none⟩ (.int .i64 (f x.2).2)) (w.heap.size + 1) 1 (.int .i64 0) := own_far (by dsimp only; omega) (own_far (by dsimp only; omega) o_r1_s0)
          have o_h40_s1 : Own ((((wn25.setCell ⟨h4, 0, none⟩ (.int .i64 (f x.1).1)).setCell ⟨h4, 1, none⟩ (.int .i64 (f x.1).2)).setCell ⟨h5, 0, none⟩ (.int .i64 (f x.2).1)).setCell ⟨h5, 1, none⟩ (.int .i64 (f x.2).2)) h4 0 (.int .i64 (f x.1).1) := own_far (by dsimp only; omega) (own_far (by dsimp only; omega) o_h40_s0)
          have o_h41_s1 : Own ((((wn25.setCell ⟨h4, 0, none⟩ (.int .i64 (f x.1).1)).setCell ⟨h4, 1, none⟩ (.int .i64 (f x.1).2)).setCell ⟨h5, 0, none⟩ (.int .i64 (f x.2).1)).setCell ⟨h5, 1, none⟩ (.int .i64 (f x.2).2)) h4 1 (.int .i64 (f x.1).2) := own_far (by dsimp only; omega) (own_far (by dsimp only; omega) o_h41_s0)
          have o_h50_s1 : Own ((((wn25.setCell ⟨h4, 0, none⟩ (.int .i64 (f x.1).1)).setCell ⟨h4, 1, none⟩ (.int .i64 (f x.1).2)).setCell ⟨h5, 0, none⟩ (.int .i64 (f x.2).1)).setCell ⟨h5, 1, none⟩ (.int .i64 (f x.2).2)) h5 0 (.int .i64 (f x.2).1) := own_next (by decide) (own_put o_h50_s0)
          have o_h51_s1 : Own ((((wn25.setCell ⟨h4, 0, none⟩ (.int .i64 (f x.1).1)).setCell ⟨h4, 1, none⟩ (.int .i64 (f x.1).2)).setCell ⟨h5, 0, none⟩ (.int .i64 (f x.2).1)).setCell ⟨h5, 1, none⟩ (.int .i64 (f x.2).2)) h5 1 (.int .i64 (f x.2).2) := own_put (own_next (by decide) o_h51_s0)
          refine hK.out _ _ (StayS.mk ⟨o_b0_s1.1, o_x0_s1.1, o_x1_s1.1⟩) ?_
          clear hK K cH0 fH0 cH1 fH1
          try simp only [Act.put, List.setIfInBounds_toArray, List.set_cons_zero, List.set_cons_succ]
          refine AnyS.done (by kernel_rfl) ?_ _
          go_wp2_with fail
          go_meet
          exact ⟨h4, h5, rfl, rfl, o_h40_s1, o_h41_s1, o_h50_s1, o_h51_s1, by omega, by omega, o_r0_s1, o_r1_s1, belB⟩
      · go_simp
        obtain ⟨h5, hh⟩ : ∃ h, h = wd.heap.size := ⟨_, rfl⟩
        obtain ⟨wn26, ha⟩ : ∃ x, x = wd.alloc (.cells #[.int .i64 0, .int .i64 0] 26) := ⟨_, rfl⟩
        rw [← ha]
        have o_h50_n26 : Own wn26 h5 0 (.int .i64 0) := by rw [ha, hh]; exact ⟨by simp [go_sem], by simp [go_sem]⟩
        have o_h51_n26 : Own wn26 h5 1 (.int .i64 0) := by rw [ha, hh]; exact ⟨by simp [go_sem], by simp [go_sem]⟩
        have o_b0_n26 : Own wn26 b 0 (.func (Fn.func fn) #[] caps) := by rw [ha]; exact own_alloc o_b0_d
        have o_x0_n26 : Own wn26 w.heap.size 0 (.int .i64 x.1) := by rw [ha]; exact own_alloc o_x0_d
        have o_x1_n26 : Own wn26 w.heap.size 1 (.int .i64 x.2) := by rw [ha]; exact own_alloc o_x1_d
        have o_r0_n26 : Own wn26 (w.heap.size + 1) 0 (.int .i64 0) := by rw [ha]; exact own_alloc o_r0_d
        have o_r1_n26 : Own wn26 (w.heap.size + 1) 1 (.int .i64 0) := by rw [ha]; exact own_alloc o_r1_d
        have st_n26 : St wn26 := by rw [ha]; exact SA _ _ st_d
        have lh5_b : b < h5 := by rw [hh]; exact World.block_lt_of_cell? _ _ o_b0_d.1
        have lh5_x : w.heap.size < h5 := by rw [hh]; exact World.block_lt_of_cell? _ _ o_x0_d.1
        have lh5_r : (w.heap.size + 1) < h5 := by rw [hh]; exact World.block_lt_of_cell? _ _ o_r0_d.1
        have bwn26 : Below w.heap.size w wn26 := by rw [ha]; exact bwd.alloc bwd.size _
        try rw [← hh]
        clear ha hh
        refine hK.out _ _ (StayS.mk ⟨o_b0_n26.1, o_x0_n26.1, o_x1_n26.1⟩) ?_
        clear hK K
        try simp only [Act.put, List.setIfInBounds_toArray, List.set_cons_zero, List.set_cons_succ]
        refine AnyS.two (i := 3) (j := 8) (by kernel_rfl) (AnyS.comes rfl (fun K hK => ?_)) (AnyS.comes rfl (fun K hK => ?_))
        · go_simp
          refine (HF.out x.1 wn26 fx1 st_n26).mono ?_
          rintro e wn27 ⟨rfl, hbn27⟩
          have o_b0_n27 : Own wn27 b 0 (.func (Fn.func fn) #[] caps) := own_kept hbn27 o_b0_n26
          have o_x0_n27 : Own wn27 w.heap.size 0 (.int .i64 x.1) := own_kept hbn27 o_x0_n26
          have o_x1_n27 : Own wn27 w.heap.size 1 (.int .i64 x.2) := own_kept hbn27 o_x1_n26
          have o_r0_n27 : Own wn27 (w.heap.size + 1) 0 (.int .i64 0) := own_kept hbn27 o_r0_n26
          have o_r1_n27 : Own wn27 (w.heap.size + 1) 1 (.int .i64 0) := own_kept hbn27 o_r1_n26
          have o_h50_n27 : Own wn27 h5 0 (.int .i64 0) := own_kept hbn27 o_h50_n26
          have o_h51_n27 : Own wn27 h5 1 (.int .i64 0) := own_kept hbn27 o_h51_n26
          have st_n27 : St wn27 := SK _ _ st_n26 hbn27
          have bwn27 : Below w.heap.size w wn27 := bwn26.trans (hbn27.mono bwn26.size)
          clear hbn27
          go_wp2_with fail
          refine hK.out _ _ (StayS.mk ⟨o_b0_n27.1, o_x0_n27.1, o_x1_n27.1⟩) ?_
          clear hK K
          try simp only [Act.put, List.setIfInBounds_toArray, List.set_cons_zero, List.set_cons_succ]
          refine AnyS.two (i := 7) (j := 8) (by kernel_rfl) (AnyS.comes rfl (fun K hK => ?_)) (AnyS.comes rfl (fun K hK => ?_))
          · go_simp
            refine (HF.out x.2 wn27 fx2 st_n27).mono ?_
            rintro e wn28 ⟨rfl, hbn28⟩
            have o_b0_n28 : Own wn28 b 0 (.func (Fn.func fn) #[] caps) := own_kept hbn28 o_b0_n27
            have o_x0_n28 : Own wn28 w.heap.size 0 (.int .i64 x.1) := own_kept hbn28 o_x0_n27
            have o_x1_n28 : Own wn28 w.heap.size 1 (.int .i64 x.2) := own_kept hbn28 o_x1_n27
            have o_r0_n28 : Own wn28 (w.heap.size + 1) 0 (.int .i64 0) := own_kept hbn28 o_r0_n27
            have o_r1_n28 : Own wn28 (w.heap.size + 1) 1 (.int .i64 0) := own_kept hbn28 o_r1_n27
            have o_h50_n28 : Own wn28 h5 0 (.int .i64 0) := own_kept hbn28 o_h50_n27
            have o_h51_n28 : Own wn28 h5 1 (.int .i64 0) := own_kept hbn28 o_h51_n27
            have st_n28 : St wn28 := SK _ _ st_n27 hbn28
            have bwn28 : Below w.heap.size w wn28 := bwn27.trans (hbn28.mono bwn27.size)
            clear hbn28
            go_wp2_with fail
            refine hK.out _ _ (StayS.mk ⟨o_b0_n28.1, o_x0_n28.1, o_x1_n28.1⟩) ?_
            clear hK K
            try simp only [Act.put, List.setIfInBounds_toArray, List.set_cons_zero, List.set_cons_succ]
            refine AnyS.one (i := 8) (by kernel_rfl) (AnyS.comes rfl (fun K hK => ?_))
            go_simp
            obtain ⟨h4, hh⟩ : ∃ h, h = wn28.heap.size := ⟨_, rfl⟩
            obtain ⟨wn29, ha⟩ : ∃ x, x = wn28.alloc (.cells #[.int .i64 0, .int .i64 0] 26) := ⟨_, rfl⟩
            rw [← ha]
            have o_h40_n29 : Own wn29 h4 0 (.int .i64 0) := by rw [ha, hh]; exact ⟨by simp [go_sem], by simp [go_sem]⟩
            have o_h41_n29 : Own wn29 h4 1 (.int .i64 0) := by rw [ha, hh]; exact ⟨by simp [go_sem], by simp [go_sem]⟩
            have o_b0_n29 : Own wn29 b 0 (.func (Fn.func fn) #[] caps) := by rw [ha]; exact own_alloc o_b0_n28
            have o_x0_n29 : Own wn29 w.heap.size 0 (.int .i64 x.1) := by rw [ha]; exact own_alloc o_x0_n28
            have o_x1_n29 : Own wn29 w.heap.size 1 (.int .i64 x.2) := by rw [ha]; exact own_alloc o_x1_n28
            have o_r0_n29 : Own wn29 (w.heap.size + 1) 0 (.int .i64 0) := by rw [ha]; exact own_alloc o_r0_n28
            have o_r1_n29 : Own wn29 (w.heap.size + 1) 1 (.int .i64 0) := by rw [ha]; exact own_alloc o_r1_n28
            have o_h50_n29 : Own wn29 h5 0 (.int .i64 0) := by rw [ha]; exact own_alloc o_h50_n28
            have o_h51_n29 : Own wn29 h5 1 (.int .i64 0) := by rw [ha]; exact own_alloc o_h51_n28
            have st_n29 : St wn29 := by rw [ha]; exact SA _ _ st_n28
            have lh4_b : b < h4 := by rw [hh]; exact World.block_lt_of_cell? _ _ o_b0_n28.1
            have lh4_x : w.heap.size < h4 := by rw [hh]; exact World.block_lt_of_cell? _ _ o_x0_n28.1
            have lh4_r : (w.heap.size + 1) < h4 := by rw [hh]; exact World.block_lt_of_cell? _ _ o_r0_n28.1
            have lh4_h5 : h5 < h4 := by rw [hh]; exact World.block_lt_of_cell? _ _ o_h50_n28.1
            have bwn29 : Below w.heap.size w wn29 := by rw [ha]; exact bwn28.alloc bwn28.size _
            try rw [← hh]
            clear ha hh
            refine hK.out _ _ (StayS.mk ⟨o_b0_n29.1, o_x0_n29.1, o_x1_n29.1⟩) ?_
            clear hK K
            try simp only [Act.put, List.setIfInBounds_toArray, List.set_cons_zero, List.set_cons_succ]
            have cH0 := (o_h40_n29).1
            have fH0 := (o_h40_n29).2
            have cH1 := (o_h41_n29).1
            have fH1 := (o_h41_n29).2
            refine AnyS.one (i := 10) (by kernel_rfl) (AnyS.comes rfl (fun K hK => ?_))
            go_simp
            have o_b0_s0 : Own ((wn29.setCell ⟨h4, 0, none⟩ (.int .i64 (f x.1).1)).setCell ⟨h4, 1, none⟩ (.int .i64 (f x.1).2)) b 0 (.func (Fn.func fn) #[] caps) := own_far (by dsimp only; omega) (own_far (by dsimp only; omega) o_b0_n29)
            have o_x0_s0 : Own ((wn29.setCell ⟨h4, 0, none⟩ (.int .i64 (f x.1).1)).setCell ⟨h4, 1, none⟩ (.int .i64 (f x.1).2)) w.heap.size 0 (.int .i64 x.1) := own_far (by dsimp only; omega) (own_far (by dsimp only; omega) o_x0_n29)
            have o_x1_s0 : Own ((wn29.setCell ⟨h4, 0, none⟩ (.int .i64 (f x.1).1)).setCell ⟨h4, 1, none⟩ (.int .i64 (f x.1).2)) w.heap.size 1 (.int .i64 x.2) := own_far (by dsimp only; omega) (own_far (by dsimp only; omega) o_x1_n29)
            have o_r0_s0 : Own ((wn29.setCell ⟨h4, 0, none⟩ (.int .i64 (f x.1).1)).setCell ⟨h4, 1, none⟩ (.int .i64 (f x.1).2)) (w.heap.size + 1) 0 (.int .i64 0) := own_far (by dsimp only; omega) (own_far (by dsimp only; omega) o_r0_n29)
            have o_r1_s0 : Own ((wn29.setCell ⟨h4, 0, none⟩ (.int .i64 (f x.1).1)).setCell ⟨h4, 1, none⟩ (.int .i64 (f x.1).2)) (w.heap.size + 1) 1 (.int .i64 0) := own_far (by dsimp only; omega) (own_far (by dsimp only; omega) o_r1_n29)
            have o_h50_s0 : Own ((wn29.setCell ⟨h4, 0, none⟩ (.int .i64 (f x.1).1)).setCell ⟨h4, 1, none⟩ (.int .i64 (f x.1).2)) h5 0 (.int .i64 0) := own_far (by dsimp only; omega) (own_far (by dsimp only; omega) o_h50_n29)
            have o_h51_s0 : Own ((wn29.setCell ⟨h4, 0, none⟩ (.int .i64 (f x.1).1)).setCell ⟨h4, 1, none⟩ (.int .i64 (f x.1).2)) h5 1 (.int .i64 0) := own_far (by dsimp only; omega) (own_far (by dsimp only; omega) o_h51_n29)
            have o_h40_s0 : Own ((wn29.setCell ⟨h4, 0, none⟩ (.int .i64 (f x.1).1)).setCell ⟨h4, 1, none⟩ (.int .i64 (f x.1).2)) h4 0 (.int .i64 (f x.1).1) := own_next (by decide) (own_put o_h40_n29)
            have o_h41_s0 : Own ((wn29.setCell ⟨h4, 0, none⟩ (.int .i64 (f x.1).1)).setCell ⟨h4, 1, none⟩ (.int .i64 (f x.1).2)) h4 1 (.int .i64 (f x.1).2) := own_put (own_next (by decide) o_h41_n29)
            refine hK.out _ _ (StayS.mk ⟨o_b0_s0.1, o_x0_s0.1, o_x1_s0.1⟩) ?_
            clear hK K cH0 fH0 cH1 fH1
            try simp only [Act.put, List.setIfInBounds_toArray, List.set_cons_zero, List.set_cons_succ]
            have cH0 := (o_h50_s0).1
            have fH0 := (o_h50_s0).2
            have cH1 := (o_h51_s0).1
            have fH1 := (o_h51_s0).2
            refine AnyS.one (i := 11) (by kernel_rfl) (AnyS.comes rfl (fun K hK => ?_))
            go_simp
            have o_b0_s1 : Own ((((wn29.setCell ⟨h4, 0, none⟩ (.int .i64 (f x.1).1)).setCell ⟨h4, 1, none⟩ (.int .i64 (f x.1).2)).setCell ⟨h5, 0, none⟩ (.int .i64 (f x.2).1)).setCell ⟨h5, 1, none⟩ (.int .i64 (f x.2).2)) b 0 (.func (Fn.func fn) #[] caps) := own_far (by dsimp only; omega) (own_far (by dsimp only; omega) o_b0_s0)
            have o_x0_s1 : Own ((((wn29.setCell ⟨h4, 0, none⟩ (.int .i64 (f x.1).1)).setCell ⟨h4, 1, none⟩ (.int .i64 (f x.1).2)).setCell ⟨h5, 0, none⟩ (.int .i64 (f x.2).1)).setCell ⟨h5, 1, none⟩ (.int .i64 (f x.2).2)) w.heap.size 0 (.int .i64 x.1) := own_far (by dsimp only; omega) (own_far (by dsimp only; omega) o_x0_s0)
            have o_x1_s1 : Own ((((wn29.setCell ⟨h4, 0, none⟩ (.int .i64 (f x.1).1)).setCell ⟨h4, 1, none⟩ (.int .i64 (f x.1).2)).setCell ⟨h5, 0, none⟩ (.int .i64 (f x.2).1)).setCell ⟨h5, 1, none⟩ (.int .i64 (f x.2).2)) w.heap.size 1 (.int .i64 x.2) := own_far (by dsimp only; omega) (own_far (by dsimp only; omega) o_x1_s0)
            have o_r0_s1 : Own ((((wn29.setCell ⟨h4, 0, none⟩ (.int .i64 (f x.1).1)).setCell ⟨h4, 1, none⟩ (.int .i64 (f x.1).2)).setCell ⟨h5, 0, none⟩ (.int .i64 (f x.2).1)).setCell ⟨h5, 1, none⟩ (.int .i64 (f x.2).2)) (w.heap.size + 1) 0 (.int .i64 0) := own_far (by dsimp only; omega) (own_far (by dsimp only; omega) o_r0_s0)
            have o_r1_s1 : Own ((((wn29.setCell ⟨h4, 0, none⟩ (.int .i64 (f x.1).1)).setCell ⟨h4, 1, none⟩ (.int .i64 (f x.1).2)).setCell ⟨h5, 0, none⟩ (.int .i64 (f x.2).1)).setCell ⟨h5, 1, none⟩ (.int .i64 (f x.2).2)) (w.heap.size + 1) 1 (.int .i64 0) := own_far (by dsimp only; omega) (own_far (by dsimp only; omega) o_r1_s0)
            have o_h50_s1 : Own ((((wn29.setCell ⟨h4, 0, none⟩ (.int .i64 (f x.1).1)).setCell ⟨h4, 1, none⟩ (.int .i64 (f x.1).2)).setCell ⟨h5, 0, none⟩ (.int .i64 (f x.2).1)).setCell ⟨h5, 1, none⟩ (.int .i64 (f x.2).2)) h5 0 (.int .i64 (f x.2).1) := own_next (by decide) (own_put o_h50_s0)
            have o_h51_s1 : Own ((((wn29.setCell ⟨h4, 0, none⟩ (.int .i64 (f x.1).1)).setCell ⟨h4, 1, none⟩ (.int .i64 (f x.1).2)).setCell ⟨h5, 0, none⟩ (.int .i64 (f x.2).1)).setCell ⟨h5, 1, none⟩ (.int .i64 (f x.2).2)) h5 1 (.int .i64 (f x.2).2) := own_put (own_next (by decide) o_h51_s0)
            have o_h40_s1 : Own ((((wn29.setCell ⟨h4, 0, none⟩ (.int .i64 (f x.1).1)).setCell ⟨h4, 1, none⟩ (.int .i64 (f x.1).2)).setCell ⟨h5, 0, none⟩ (.int .i64 (f x.2).1)).setCell ⟨h5, 1, none⟩ (.int .i64 (f x.2).2)) h4 0 (.int .i64 (f x.1).1) := own_far (by dsimp only; omega) (own_far (by dsimp only; omega) o_h40_s0)
            have o_h41_s1 : Own ((((wn29.setCell ⟨h4, 0, none⟩ (.int .i64 (f x.1).1)).setCell ⟨h4, 1, none⟩ (.int .i64 (f x.1).2)).setCell ⟨h5, 0, none⟩ (.int .i64 (f x.2).1)).setCell ⟨h5, 1, none⟩ (.int .i64 (f x.2).2)) h4 1 (.int .i64 (f x.1).2) := own_far (by dsimp only; omega) (own_far (by dsimp only; omega) o_h41_s0)
            refine hK.out _ _ (StayS.mk ⟨o_b0_s1.1, o_x0_s1.1, o_x1_s1.1⟩) ?_
            clear hK K cH0 fH0 cH1 fH1
            try simp only [Act.put, List.setIfInBounds_toArray, List.set_cons_zero, List.set_cons_succ]
            refine AnyS.done (by kernel_rfl) ?_ _
            go_wp2_with fail
            go_meet
            exact ⟨h4, h5, rfl, rfl, o_h40_s1, o_h41_s1, o_h50_s1, o_h51_s1, by omega, by omega, o_r0_s1, o_r1_s1, belB⟩
          · go_simp
            obtain ⟨h4, hh⟩ : ∃ h, h = wn27.heap.size := ⟨_, rfl⟩
            obtain ⟨wn30, ha⟩ : ∃ x, x = wn27.alloc (.cells #[.int .i64 0, .int .i64 0] 26) := ⟨_, rfl⟩
            rw [← ha]
            have o_h40_n30 : Own wn30 h4 0 (.int .i64 0) := by rw [ha, hh]; exact ⟨by simp [go_sem], by simp [go_sem]⟩
            have o_h41_n30 : Own wn30 h4 1 (.int .i64 0) := by rw [ha, hh]; exact ⟨by simp [go_sem], by simp [go_sem]⟩
            have o_b0_n30 : Own wn30 b 0 (.func (Fn.func fn) #[] caps) := by rw [ha]; exact own_alloc o_b0_n27
            have o_x0_n30 : Own wn30 w.heap.size 0 (.int .i64 x.1) := by rw [ha]; exact own_alloc o_x0_n27
            have o_x1_n30 : Own wn30 w.heap.size 1 (.int .i64 x.2) := by rw [ha]; exact own_alloc o_x1_n27
            have o_r0_n30 : Own wn30 (w.heap.size + 1) 0 (.int .i64 0) := by rw [ha]; exact own_alloc o_r0_n27
            have o_r1_n30 : Own wn30 (w.heap.size + 1) 1 (.int .i64 0) := by rw [ha]; exact own_alloc o_r1_n27
            have o_h50_n30 : Own wn30 h5 0 (.int .i64 0) := by rw [ha]; exact own_alloc o_h50_n27
            have o_h51_n30 : Own wn30 h5 1 (.int .i64 0) := by rw [ha]; exact own_alloc o_h51_n27
            have st_n30 : St wn30 := by rw [ha]; exact SA _ _ st_n27
            have lh4_b : b < h4 := by rw [hh]; exact World.block_lt_of_cell? _ _ o_b0_n27.1
            have lh4_x : w.heap.size < h4 := by rw [hh]; exact World.block_lt_of_cell? _ _ o_x0_n27.1
            have lh4_r : (w.heap.size + 1) < h4 := by rw [hh]; exact World.block_lt_of_cell? _ _ o_r0_n27.1
            have lh4_h5 : h5 < h4 := by rw [hh]; exact World.block_lt_of_cell? _ _ o_h50_n27.1
            have bwn30 : Below w.heap.size w wn30 := by rw [ha]; exact bwn27.alloc bwn27.size _
            try rw [← hh]
            clear ha hh
            refine hK.out _ _ (StayS.mk ⟨o_b0_n30.1, o_x0_n30.1, o_x1_n30.1⟩) ?_
            clear hK K
            try simp only [Act.put, List.setIfInBounds_toArray, List.set_cons_zero, List.set_cons_succ]
            refine AnyS.one (i := 7) (by kernel_rfl) (AnyS.comes rfl (fun K hK => ?_))
            go_simp
            refine (HF.out x.2 wn30 fx2 st_n30).mono ?_
            rintro e wn31 ⟨rfl, hbn31⟩
            have o_b0_n31 : Own wn31 b 0 (.func (Fn.func fn) #[] caps) := own_kept hbn31 o_b0_n30
            have o_x0_n31 : Own wn31 w.heap.size 0 (.int .i64 x.1) := own_kept hbn31 o_x0_n30
            have o_x1_n31 : Own wn31 w.heap.size 1 (.int .i64 x.2) := own_kept hbn31 o_x1_n30
            have o_r0_n31 : Own wn31 (w.heap.size + 1) 0 (.int .i64 0) := own_kept hbn31 o_r0_n30
            have o_r1_n31 : Own wn31 (w.heap.size + 1) 1 (.int .i64 0) := own_kept hbn31 o_r1_n30
            have o_h50_n31 : Own wn31 h5 0 (.int .i64 0) := own_kept hbn31 o_h50_n30
            have o_h51_n31 : Own wn31 h5 1 (.int .i64 0) := own_kept hbn31 o_h51_n30
            have o_h40_n31 : Own wn31 h4 0 (.int .i64 0) := own_kept hbn31 o_h40_n30
            have o_h41_n31 : Own wn31 h4 1 (.int .i64 0) := own_kept hbn31 o_h41_n30
            have st_n31 : St wn31 := SK _ _ st_n30 hbn31
            have bwn31 : Below w.heap.size w wn31 := bwn30.trans (hbn31.mono bwn30.size)
            clear hbn31
            go_wp2_with fail
            refine hK.out _ _ (StayS.mk ⟨o_b0_n31.1, o_x0_n31.1, o_x1_n31.1⟩) ?_
            clear hK K
            try simp only [Act.put, List.setIfInBounds_toArray, List.set_cons_zero, List.set_cons_succ]
            have cH0 := (o_h40_n31).1
            have fH0 := (o_h40_n31).2
            have cH1 := (o_h41_n31).1
            have fH1 := (o_h41_n31).2
            refine AnyS.one (i := 10) (by kernel_rfl) (AnyS.comes rfl (fun K hK => ?_))
            go_simp
            have o_b0_s0 : Own ((wn31.setCell ⟨h4, 0, none⟩ (.int .i64 (f x.1).1)).setCell ⟨h4, 1, none⟩ (.int .i64 (f x.1).2)) b 0 (.func (Fn.func fn) #[] caps) := own_far (by dsimp only; omega) (own_far (by dsimp only; omega) o_b0_n31)
            have o_x0_s0 : Own ((wn31.setCell ⟨h4, 0, none⟩ (.int .i64 (f x.1).1)).setCell ⟨h4, 1, none⟩ (.int .i64 (f x.1).2)) w.heap.size 0 (.int .i64 x.1) := own_far (by dsimp only; omega) (own_far (by dsimp only; omega) o_x0_n31)
            have o_x1_s0 : Own ((wn31.setCell ⟨h4, 0, none⟩ (.int .i64 (f x.1).1)).setCell ⟨h4, 1, none⟩ (.int .i64 (f x.1).2)) w.heap.size 1 (.int .i64 x.2) := own_far (by dsimp only; omega) (own_far (by dsimp only; omega) o_x1_n31)
            have o_r0_s0 : Own ((wn31.setCell ⟨h4, 0, none⟩ (.int .i64 (f x.1).1)).setCell ⟨h4, 1, none⟩ (.int .i64 (f x.1).2)) (w.heap.size + 1) 0 (.int .i64 0) := own_far (by dsimp only; omega) (own_far (by dsimp only; omega) o_r0_n31)
            have o_r1_s0 : Own ((wn31.setCell ⟨h4, 0, none⟩ (.int .i64 (f x.1).1)).setCell ⟨h4, 1, none⟩ (.int .i64 (f x.1).2)) (w.heap.size + 1) 1 (.int .i64 0) := own_far (by dsimp only; omega) (own_far (by dsimp only; omega) o_r1_n31)
            have o_h50_s0 : Own ((wn31.setCell ⟨h4, 0, none⟩ (.int .i64 (f x.1).1)).setCell ⟨h4, 1, none⟩ (.int .i64 (f x.1).2)) h5 0 (.int .i64 0) := own_far (by dsimp only; omega) (own_far (by dsimp only; omega) o_h50_n31)
            have o_h51_s0 : Own ((wn31.setCell ⟨h4, 0, none⟩ (.int .i64 (f x.1).1)).setCell ⟨h4, 1, none⟩ (.int .i64 (f x.1).2)) h5 1 (.int .i64 0) := own_far (by dsimp only; omega) (own_far (by dsimp only; omega) o_h51_n31)
            have o_h40_s0 : Own ((wn31.setCell ⟨h4, 0, none⟩ (.int .i64 (f x.1).1)).setCell ⟨h4, 1, none⟩ (.int .i64 (f x.1).2)) h4 0 (.int .i64 (f x.1).1) := own_next (by decide) (own_put o_h40_n31)
            have o_h41_s0 : Own ((wn31.setCell ⟨h4, 0, none⟩ (.int .i64 (f x.1).1)).setCell ⟨h4, 1, none⟩ (.int .i64 (f x.1).2)) h4 1 (.int .i64 (f x.1).2) := own_put (own_next (by decide) o_h41_n31)
            refine hK.out _ _ (StayS.mk ⟨o_b0_s0.1, o_x0_s0.1, o_x1_s0.1⟩) ?_
            clear hK K cH0 fH0 cH1 fH1
            try simp only [Act.put, List.setIfInBounds_toArray, List.set_cons_zero, List.set_cons_succ]
            have cH0 := (o_h50_s0).1
            have fH0 := (o_h50_s0).2
            have cH1 := (o_h51_s0).1
            have fH1 := (o_h51_s0).2
            refine AnyS.one (i := 11) (by kernel_rfl) (AnyS.comes rfl (fun K hK => ?_))
            go_simp
            have o_b0_s1 : Own ((((wn31.setCell ⟨h4, 0, none⟩ (.int .i64 (f x.1).1)).setCell ⟨h4, 1, none⟩ (.int .i64 (f x.1).2)).setCell ⟨h5, 0, none⟩ (.int .i64 (f x.2).1)).setCell ⟨h5, 1, none⟩ (.int .i64 (f x.2).2)) b 0 (.func (Fn.func fn) #[] caps) := own_far (by dsimp only; omega) (own_far (by dsimp only; omega) o_b0_s0)
            have o_x0_s1 : Own ((((wn31.setCell ⟨h4, 0, none⟩ (.int .i64 (f x.1).1)).setCell ⟨h4, 1, none⟩ (.int .i64 (f x.1).2)).setCell ⟨h5, 0, none⟩ (.int .i64 (f x.2).1)).setCell ⟨h5, 1, none⟩ (.int .i64 (f x.2).2)) w.heap.size 0 (.int .i64 x.1) := own_far (by dsimp only; omega) (own_far (by dsimp only; omega) o_x0_s0)
            have o_x1_s1 : Own ((((wn31.setCell ⟨h4, 0, none⟩ (.int .i64 (f x.1).1)).setCell ⟨h4, 1, none⟩ (.int .i64 (f x.1).2)).setCell ⟨h5, 0, none⟩ (.int .i64 (f x.2).1)).setCell ⟨h5, 1, none⟩ (.int .i64 (f x.2).2)) w.heap.size 1 (.int .i64 x.2) := own_far (by dsimp only; omega) (own_far (by dsimp only; omega) o_x1_s0)
            have o_r0_s1 : Own ((((wn31.setCell ⟨h4, 0, none⟩ (.int .i64 (f x.1).1)).setCell ⟨h4, 1, none⟩ (.int .i64 (f x.1).2)).setCell ⟨h5, 0, none⟩ (.int .i64 (f x.2).1)).setCell ⟨h5, 1, none⟩ (.int .i64 (f x.2).2)) (w.heap.size + 1) 0 (.int .i64 0) := own_far (by dsimp only; omega) (own_far (by dsimp only; omega) o_r0_s0)
            have o_r1_s1 : Own ((((wn31.setCell ⟨h4, 0, none⟩ (.int .i64 (f x.1).1)).setCell ⟨h4, 1, none⟩ (.int .i64 (f x.1).2)).setCell ⟨h5, 0, none⟩ (.int .i64 (f x.2).1)).setCell ⟨h5, 1, none⟩ (.int .i64 (f x.2).2)) (w.heap.size + 1) 1 (.int .i64 0) := own_far (by dsimp only; omega) (own_far (by dsimp only; omega) o_r1_s0)
            have o_h50_s1 : Own ((((wn31.setCell ⟨h4, 0, none⟩ (.int .i64 (f x.1).1)).setCell ⟨h4, 1, none⟩ (.int .i64 (f x.1).2)).setCell ⟨h5, 0, none⟩ (.int .i64 (f x.2).1)).setCell ⟨h5, 1, none⟩ (.int .i64 (f x.2).2)) h5 0 (.int .i64 (f x.2).1) := own_next (by decide) (own_put o_h50_s0)
            have o_h51_s1 : Own ((((wn31.setCell ⟨h4, 0, none⟩ (.int .i64 (f x.1).1)).setCell ⟨h4, 1, none⟩ (.int .i64 (f x.1).2)).setCell ⟨h5, 0, none⟩ (.int .i64 (f x.2).1)).setCell ⟨h5, 1, none⟩ (.int .i64 (f x.2).2)) h5 1 (.int .i64 (f x.2).2) := own_put (own_next (by decide) o_h51_s0)
            have o_h40_s1 : Own ((((wn31.setCell ⟨h4, 0, none⟩ (.int .i64 (f x.1).1)).setCell ⟨h4, 1, none⟩ (.int .i64 (f x.1).2)).setCell ⟨h5, 0, none⟩ (.int .i64 (f x.2).1)).setCell ⟨h5, 1, none⟩ (.int .i64 (f x.2).2)) h4 0 (.int .i64 (f x.1).1) := own_far (by dsimp only; omega) (own_far (by dsimp only; omega) o_h40_s0)
            have o_h41_s1 : Own ((((wn31.setCell ⟨h4, 0, none⟩ (.int .i64 (f x.1).1)).setCell ⟨h4, 1, none⟩ (.int .i64 (f x.1).2)).setCell ⟨h5, 0, none⟩ (.int .i64 (f x.2).1)).setCell ⟨h5, 1, none⟩ (.int .i64 (f x.2).2)) h4 1 (.int .i64 (f x.1).2) := own_far (by dsimp only; omega) (own_far (by dsimp only; omega) o_h41_s0)
            refine hK.out _ _ (StayS.mk ⟨o_b0_s1.1, o_x0_s1.1, o_x1_s1.1⟩) ?_
            clear hK K cH0 fH0 cH1 fH1
            try simp only [Act.put, List.setIfInBounds_toArray, List.set_cons_zero, List.set_cons_succ]
            refine AnyS.done (by kernel_rfl) ?_ _
            go_wp2_with fail
            go_meet
            exact ⟨h4, h5, rfl, rfl, o_h40_s1, o_h41_s1, o_h50_s1, o_h51_s1, by omega, by omega, o_r0_s1, o_r1_s1, belB⟩
        · go_simp
          obtain ⟨h4, hh⟩ : ∃ h, h = wn26.heap.size := ⟨_, rfl⟩
          obtain ⟨wn32, ha⟩ : ∃ x, x = wn26.alloc (.cells #[.int .i64 0, .int .i64 0] 26) := ⟨_, rfl⟩
          rw [← ha]
          have o_h40_n32 : Own wn32 h4 0 (.int .i64 0) := by rw [ha, hh]; exact ⟨by simp [go_sem], by simp [go_sem]⟩
          have o_h41_n32 : Own wn32 h4 1 (.int .i64 0) := by rw [ha, hh]; exact ⟨by simp [go_sem], by simp [go_sem]⟩
          have o_b0_n32 : Own wn32 b 0 (.func (Fn.func fn) #[] caps) := by rw [ha]; exact own_alloc o_b0_n26
          have o_x0_n32 : Own wn32 w.heap.size 0 (.int .i64 x.1) := by rw [ha]; exact own_alloc o_x0_n26
          have o_x1_n32 : Own wn32 w.heap.size 1 (.int .i64 x.2) := by rw [ha]; exact own_alloc o_x1_n26
          have o_r0_n32 : Own wn32 (w.heap.size + 1) 0 (.int .i64 0) := by rw [ha]; exact own_alloc o_r0_n26
          have o_r1_n32 : Own wn32 (w.heap.size + 1) 1 (.int .i64 0) := by rw [ha]; exact own_alloc o_r1_n26
          have o_h50_n32 : Own wn32 h5 0 (.int .i64 0) := by rw [ha]; exact own_alloc o_h50_n26
          have o_h51_n32 : Own wn32 h5 1 (.int .i64 0) := by rw [ha]; exact own_alloc o_h51_n26
          have st_n32 : St wn32 := by rw [ha]; exact SA _ _ st_n26
          have lh4_b : b < h4 := by rw [hh]; exact World.block_lt_of_cell? _ _ o_b0_n26.1
          have lh4_x : w.heap.size < h4 := by rw [hh]; exact World.block_lt_of_cell? _ _ o_x0_n26.1
          have lh4_r : (w.heap.size + 1) < h4 := by rw [hh]; exact World.block_lt_of_cell? _ _ o_r0_n26.1
          have lh4_h5 : h5 < h4 := by rw [hh]; exact World.block_lt_of_cell? _ _ o_h50_n26.1
          have bwn32 : Below w.heap.size w wn32 := by rw [ha]; exact bwn26.alloc bwn26.size _
          try rw [← hh]
          clear ha hh
          refine hK.out _ _ (StayS.mk ⟨o_b0_n32.1, o_x0_n32.1, o_x1_n32.1⟩) ?_
          clear hK K
          try simp only [Act.put, List.setIfInBounds_toArray, List.set_cons_zero, List.set_cons_succ]
          refine AnyS.one (i := 3) (by kernel_rfl) (AnyS.comes rfl (fun K hK => ?_))
          go_simp
          refine (HF.out x.1 wn32 fx1 st_n32).mono ?_
          rintro e wn33 ⟨rfl, hbn33⟩
          have o_b0_n33 : Own wn33 b 0 (.func (Fn.func fn) #[] caps) := own_kept hbn33 o_b0_n32
          have o_x0_n33 : Own wn33 w.heap.size 0 (.int .i64 x.1) := own_kept hbn33 o_x0_n32
          have o_x1_n33 : Own wn33 w.heap.size 1 (.int .i64 x.2) := own_kept hbn33 o_x1_n32
          have o_r0_n33 : Own wn33 (w.heap.size + 1) 0 (.int .i64 0) := own_kept hbn33 o_r0_n32
          have o_r1_n33 : Own wn33 (w.heap.size + 1) 1 (.int .i64 0) := own_kept hbn33 o_r1_n32
          have o_h50_n33 : Own wn33 h5 0 (.int .i64 0) := own_kept hbn33 o_h50_n32
          have o_h51_n33 : Own wn33 h5 1 (.int .i64 0) := own_kept hbn33 o_h51_n32
          have o_h40_n33 : Own wn33 h4 0 (.int .i64 0) := own_kept hbn33 o_h40_n32
          have o_h41_n33 : Own wn33 h4 1 (.int .i64 0) := own_kept hbn33 o_h41_n32
          have st_n33 : St wn33 := SK _ _ st_n32 hbn33
          have bwn33 : Below w.heap.size w wn33 := bwn32.trans (hbn33.mono bwn32.size)
          clear hbn33
          go_wp2_with fail
          refine hK.out _ _ (StayS.mk ⟨o_b0_n33.1, o_x0_n33.1, o_x1_n33.1⟩) ?_
          clear hK K
          try simp only [Act.put, List.setIfInBounds_toArray, List.set_cons_zero, List.set_cons_succ]
          refine AnyS.one (i := 7) (by kernel_rfl) (AnyS.comes rfl (fun K hK => ?_))
          go_simp
          refine (HF.out x.2 wn33 fx2 st_n33).mono ?_
          rintro e wn34 ⟨rfl, hbn34⟩
          have o_b0_n34 : Own wn34 b 0 (.func (Fn.func fn) #[] caps) := own_kept hbn34 o_b0_n33
          have o_x0_n34 : Own wn34 w.heap.size 0 (.int .i64 x.1) := own_kept hbn34 o_x0_n33
          have o_x1_n34 : Own wn34 w.heap.size 1 (.int .i64 x.2) := own_kept hbn34 o_x1_n33
          have o_r0_n34 : Own wn34 (w.heap.size + 1) 0 (.int .i64 0) := own_kept hbn34 o_r0_n33
          have o_r1_n34 : Own wn34 (w.heap.size + 1) 1 (.int .i64 0) := own_kept hbn34 o_r1_n33
          have o_h50_n34 : Own wn34 h5 0 (.int .i64 0) := own_kept hbn34 o_h50_n33
          have o_h51_n34 : Own wn34 h5 1 (.int .i64 0) := own_kept hbn34 o_h51_n33
          have o_h40_n34 : Own wn34 h4 0 (.int .i64 0) := own_kept hbn34 o_h40_n33
          have o_h41_n34 : Own wn34 h4 1 (.int .i64 0) := own_kept hbn34 o_h41_n33
          have st_n34 : St wn34 := SK _ _ st_n33 hbn34
          have bwn34 : Below w.heap.size w wn34 := bwn33.trans (hbn34.mono bwn33.size)
          clear hbn34
          go_wp2_with fail
          refine hK.out _ _ (StayS.mk ⟨o_b0_n34.1, o_x0_n34.1, o_x1_n34.1⟩) ?_
          clear hK K
          try simp only [Act.put, List.setIfInBounds_toArray, List.set_cons_zero, List.set_cons_succ]
          have cH0 := (o_h40_n34).1
          have fH0 := (o_h40_n34).2
          have cH1 := (o_h41_n34).1
          have fH1 := (o_h41_n34).2
          refine AnyS.one (i := 10) (by kernel_rfl) (AnyS.comes rfl (fun K hK => ?_))
          go_simp
          have o_b0_s0 : Own ((wn34.setCell ⟨h4, 0, none⟩ (.int .i64 (f x.1).1)).setCell ⟨h4, 1, none⟩ (.int .i64 (f x.1).2)) b 0 (.func (Fn.func fn) #[] caps) := own_far (by dsimp only; omega) (own_far (by dsimp only; omega) o_b0_n34)
          have o_x0_s0 : Own ((wn34.setCell ⟨h4, 0, none⟩ (.int .i64 (f x.1).1)).setCell ⟨h4, 1, none⟩ (.int .i64 (f x.1).2)) w.heap.size 0 (.int .i64 x.1) := own_far (by dsimp only; omega) (own_far (by dsimp only; omega) o_x0_n34)
          have o_x1_s0 : Own ((wn34.setCell ⟨h4, 0, none⟩ (.int .i64 (f x.1).1)).setCell ⟨h4, 1, none⟩ (.int .i64 (f x.1).2)) w.heap.size 1 (.int .i64 x.2) := own_far (by dsimp only; omega) (own_far (by dsimp only; omega) o_x1_n34)
          have o_r0_s0 : Own ((wn34.setCell ⟨h4, 0, none⟩ (.int .i64 (f x.1).1)).setCell ⟨h4, 1, none⟩ (.int .i64 (f x.1).2)) (w.heap.size + 1) 0 (.int .i64 0) := own_far (by dsimp only; omega) (own_far (by dsimp only; omega) o_r0_n34)
          have o_r1_s0 : Own ((wn34.setCell ⟨h4, 0, none⟩ (.int .i64 (f x.1).1)).setCell ⟨h4, 1, none⟩ (.int .i64 (f x.1).2)) (w.heap.size + 1) 1 (.int .i64 0) := own_far (by dsimp only; omega) (own_far (by dsimp only; omega) o_r1_n34)
          have o_h50_s0 : Own ((wn34.setCell ⟨h4, 0, none⟩ (.int .i64 (f x.1).1)).setCell ⟨h4, 1, none⟩ (.int .i64 (f x.1).2)) h5 0 (.int .i64 0) := own_far (by dsimp only; omega) (own_far (by dsimp only; omega) o_h50_n34)
          have o_h51_s0 : Own ((wn34.setCell ⟨h4, 0, none⟩ (.int .i64 (f x.1).1)).setCell ⟨h4, 1, none⟩ (.int .i64 (f x.1).2)) h5 1 (.int .i64 0) := own_far (by dsimp only; omega) (own_far (by dsimp only; omega) o_h51_n34)
          have o_h40_s0 : Own ((wn34.setCell ⟨h4, 0, none⟩ (.int .i64 (f x.1).1)).setCell ⟨h4, 1, none⟩ (.int .i64 (f x.1).2)) h4 0 (.int .i64 (f x.1).1) := own_next (by decide) (own_put o_h40_n34)
          have o_h41_s0 : Own ((wn34.setCell ⟨h4, 0, none⟩ (.int .i64 (f x.1).1)).setCell ⟨h4, 1, none⟩ (.int .i64 (f x.1).2)) h4 1 (.int .i64 (f x.1).2) := own_put (own_next (by decide) o_h41_n34)
          refine hK.out _ _ (StayS.mk ⟨o_b0_s0.1, o_x0_s0.1, o_x1_s0.1⟩) ?_
          clear hK K cH0 fH0 cH1 fH1
          try simp only [Act.put, List.setIfInBounds_toArray, List.set_cons_zero, List.set_cons_succ]
          have cH0 := (o_h50_s0).1
          have fH0 := (o_h50_s0).2
          have cH1 := (o_h51_s0).1
          have fH1 := (o_h51_s0).2
          refine AnyS.one (i := 11) (by kernel_rfl) (AnyS.comes rfl (fun K hK => ?_))
          go_simp
          have o_b0_s1 : Own ((((wn34.setCell ⟨h4, 0, none⟩ (.int .i64 (f x.1).1)).setCell ⟨h4, 1, none⟩ (.int .i64 (f x.1).2)).setCell ⟨h5, 0, none⟩ (.int .i64 (f x.2).1)).setCell ⟨h5, 1, none⟩ (.int .i64 (f x.2).2)) b 0 (.func (Fn.func fn) #[] caps) := own_far (by dsimp only; omega) (own_far (by dsimp only; omega) o_b0_s0)
          have o_x0_s1 : Own ((((wn34.setCell ⟨h4, 0, none⟩ (.int .i64 (f x.1).1)).setCell ⟨h4, 1, none⟩ (.int .i64 (f x.1).2)).setCell ⟨h5, 0, none⟩ (.int .i64 (f x.2).1)).setCell ⟨h5, 1, none⟩ (.int .i64 (f x.2).2)) w.heap.size 0 (.int .i64 x.1) := own_far (by dsimp only; omega) (own_far (by dsimp only; omega) o_x0_s0)
          have o_x1_s1 : Own ((((wn34.setCell ⟨h4, 0, none⟩ (.int .i64 (f x.1).1)).setCell ⟨h4, 1, none⟩ (.int .i64 (f x.1).2)).setCell ⟨h5, 0, none⟩ (.int .i64 (f x.2).1)).setCell ⟨h5, 1, none⟩ (.int .i64 (f x.2).2)) w.heap.size 1 (.int .i64 x.2) := own_far (by dsimp only; omega) (own_far (by dsimp only; omega) o_x1_s0)
          have o_r0_s1 : Own ((((wn34.setCell ⟨h4, 0, none⟩ (.int .i64 (f x.1).1)).setCell ⟨h4, 1, none⟩ (.int .i64 (f x.1).2)).setCell ⟨h5, 0, none⟩ (.int .i64 (f x.2).1)).setCell ⟨h5, 1, none⟩ (.int .i64 (f x.2).2)) (w.heap.size + 1) 0 (.int .i64 0) := own_far (by dsimp only; omega) (own_far (by dsimp only; omega) o_r0_s0)
          have o_r1_s1 : Own ((((wn34.setCell ⟨h4, 0, none⟩ (.int .i64 (f x.1).1)).setCell ⟨h4, 1, none⟩ (.int .i64 (f x.1).2)).setCell ⟨h5, 0, none⟩ (.int .i64 (f x.2).1)).setCell ⟨h5, 1, none⟩ (.int .i64 (f x.2).2)) (w.heap.size + 1) 1 (.int .i64 0) := own_far (by dsimp only; omega) (own_far (by dsimp only; omega) o_r1_s0)
          have o_h50_s1 : Own ((((wn34.setCell ⟨h4, 0, none⟩ (.int .i64 (f x.1).1)).setCell ⟨h4, 1, none⟩ (.int .i64 (f x.1).2)).setCell ⟨h5, 0, none⟩ (.int .i64 (f x.2).1)).setCell ⟨h5, 1, none⟩ (.int .i64 (f x.2).2)) h5 0 (.int .i64 (f x.2).1) := own_next (by decide) (own_put o_h50_s0)
          have o_h51_s1 : Own ((((wn34.setCell ⟨h4, 0, none⟩ (.int .i64 (f x.1).1)).setCell ⟨h4, 1, none⟩ (.int .i64 (f x.1).2)).setCell ⟨h5, 0, none⟩ (.int .i64 (f x.2).1)).setCell ⟨h5, 1, none⟩ (.int .i64 (f x.2).2)) h5 1 (.int .i64 (f x.2).2) := own_put (own_next (by decide) o_h51_s0)
          have o_h40_s1 : Own ((((wn34.setCell ⟨h4, 0, none⟩ (.int .i64 (f x.1).1)).setCell ⟨h4, 1, none⟩ (.int .i64 (f x.1).2)).setCell ⟨h5, 0, none⟩ (.int .i64 (f x.2).1)).setCell ⟨h5, 1, none⟩ (.int .i64 (f x.2).2)) h4 0 (.int .i64 (f x.1).1) := own_far (by dsimp only; omega) (own_far (by dsimp only; omega) o_h40_s0)
          have o_h41_s1 : Own ((((wn34.setCell ⟨h4, 0, none⟩ (.int .i64 (f x.1).1)).setCell ⟨h4, 1, none⟩ (.int .i64 (f x.1).2)).setCell ⟨h5, 0, none⟩ (.int .i64 (f x.2).1)).setCell ⟨h5, 1, none⟩ (.int .i64 (f x.2).2)) h4 1 (.int .i64 (f x.1).2) := own_far (by dsimp only; omega) (own_far (by dsimp only; omega) o_h41_s0)
          refine hK.out _ _ (StayS.mk ⟨o_b0_s1.1, o_x0_s1.1, o_x1_s1.1⟩) ?_
          clear hK K cH0 fH0 cH1 fH1
          try simp only [Act.put, List.setIfInBounds_toArray, List.set_cons_zero, List.set_cons_succ]
          refine AnyS.done (by kernel_rfl) ?_ _
          go_wp2_with fail
          go_meet
          exact ⟨h4, h5, rfl, rfl, o_h40_s1, o_h41_s1, o_h50_s1, o_h51_s1, by omega, by omega, o_r0_s1, o_r1_s1, belB⟩
    case rest =>
      obtain ⟨h4, h5, rfl, rfl, A0, A1, C0, C1, l4, l5, R0, R1, hb⟩ := hcut
      generalize f x.1 = a at *
      generalize f x.2 = c at *
      obtain ⟨ca0, fa0⟩ := id A0
      obtain ⟨ca1, fa1⟩ := id A1
      obtain ⟨cc0, fc0⟩ := id C0
      obtain ⟨cc1, fc1⟩ := id C1
      have hsb := hb.size
      have m4 : h4 < wc.heap.size := World.block_lt_of_cell? _ _ ca0
      have m5 : h5 < wc.heap.size := World.block_lt_of_cell? _ _ cc0
      go_wp2_with fail
      have z0 := pslot_of (w := wc) (a := ⟨w.heap.size + 1, 0, none⟩) (v := .int .i64 0) R0.1 R0.2
      have z1 := pslot_of (w := wc) (a := ⟨w.heap.size + 1, 1, none⟩) (v := .int .i64 0) R1.1 R1.2
      obtain ⟨hlt2, hlt3, hlt4, hlt5, hlt6, hlt7, hlt8, hlt9, hlt10, hlt11⟩ := below_add; go_region_held3 (fun w' => w'.cell? ⟨h4, 0, none⟩ = some (.int .i64 a.1) ∧ w'.cell? ⟨h4, 1, none⟩ = some (.int .i64 a.2) ∧ w'.cell? ⟨h5, 0, none⟩ = some (.int .i64 c.1) ∧ w'.cell? ⟨h5, 1, none⟩ = some (.int .i64 c.2) ∧ (w'.cell? ⟨w.heap.size + 1, 0, none⟩ = some (peek w' ⟨w.heap.size + 1, 0, none⟩) ∧ w'.frozen? ⟨w.heap.size + 1, 0, none⟩ = false) ∧ (w'.cell? ⟨w.heap.size + 1, 1, none⟩ = some (peek w' ⟨w.heap.size + 1, 1, none⟩) ∧ w'.frozen? ⟨w.heap.size + 1, 1, none⟩ = false)) (first | (with_reducible exact ((And.imp (cell_kept (by assumption)) (And.imp (cell_kept (by assumption)) (And.imp (cell_kept (by assumption)) (And.imp (cell_kept (by assumption)) (And.imp (pslot_kept (by assumption)) (pslot_kept (by assumption))))))) (by assumption))) | (with_reducible exact ((And.imp (cell_alloc) (And.imp (cell_alloc) (And.imp (cell_alloc) (And.imp (cell_alloc) (And.imp (pslot_alloc) (pslot_alloc)))))) (by assumption))) | (with_reducible exact ((And.imp (fun h => cell_far (by first | (simp; done) | (simp; omega) | (dsimp only; omega)) (cell_far (by first | (simp; done) | (simp; omega) | (dsimp only; omega)) h)) (And.imp (fun h => cell_far (by first | (simp; done) | (simp; omega) | (dsimp only; omega)) (cell_far (by first | (simp; done) | (simp; omega) | (dsimp only; omega)) h)) (And.imp (fun h => cell_far (by first | (simp; done) | (simp; omega) | (dsimp only; omega)) (cell_far (by first | (simp; done) | (simp; omega) | (dsimp only; omega)) h)) (And.imp (fun h => cell_far (by first | (simp; done) | (simp; omega) | (dsimp only; omega)) (cell_far (by first | (simp; done) | (simp; omega) | (dsimp only; omega)) h)) (And.imp (fun h => pslot_set (pslot_set h)) (fun h => pslot_set (pslot_set h))))))) (by assumption))) | (refine ⟨?_, ?_, ?_, ?_, ?_, ?_⟩ <;> repeat (first | (with_reducible assumption) | (with_reducible refine cell_far (by first | (simp; done) | (simp; omega) | (dsimp only; omega)) ?_) | (with_reducible refine cell_drew ?_) | (with_reducible refine cell_drewN ?_) | (with_reducible refine cell_kept (by assumption) ?_) | (with_reducible exact pslot_of (by assumption) (by assumption)) | (with_reducible refine pslot_drew ?_) | (with_reducible refine pslot_kept (by assumption) ?_) | (with_reducible refine pslot_alloc ?_) | (simp [go_sem]; done) | (with_reducible refine cell_alloc ?_))) | (simp [go_sem, *]; done)) (first | (go_at_call 93; refine (areBounded2 a c _ _ (by simp [go_sem]) (by simp [go_sem]) (by simp [go_sem]) (by simp [go_sem])).mono ?_; rintro e w1 ⟨rfl, hb⟩; have hs : _ ≤ w1.heap.size := hb.size; (try simp at hs); obtain ⟨hc, hf, hl, hn, hm⟩ := behind hb) | (go_at_call 120; refine (interval_any _ _ _ _).mono ?_; rintro e w1 ⟨rfl, hb⟩; have hs : _ ≤ w1.heap.size := hb.size; (try simp at hs); obtain ⟨hc, hf, hl, hn, hm⟩ := behind hb))
      all_goals (go_wp2; have o_j0 : Own (w1) (w.heap.size + 1) 0 (.int .i64 0) := ownJ; obtain ⟨j0, f_j0⟩ := o_j0; have o_j1 : Own (w1) (w.heap.size + 1) 1 (.int .i64 0) := ownJ; obtain ⟨j1, f_j1⟩ := o_j1; exact bodyPost_ret (v := .agg #[.int .i64 (kn (bnd a && bnd c) (a.1, c.2)).1, .int .i64 (kn (bnd a && bnd c) (a.1, c.2)).2]) (by simp [results, Tryz.results154, go_sem, j0, j1]) rfl ⟨by rw [E.out], belB⟩)
  · have HB := Lib.hid (show (!bnd x) = true by rw [bnd_no h]; rfl)
    have E := Lib.hid (mon_no (f := f) h)
    clear h
    generalize monI f x = Y at *
    go_enter Tryz.func154, Tryz.ntmps154
    go_wp2_with fail
    refine (W.out _).mono ?_
    rintro e w1 ⟨rfl, hb1⟩
    have hs1 : _ ≤ w1.heap.size := hb1.size
    try simp at hs1
    rw [HB.out]
    have o_r10 : Own (w1) (w.heap.size + 1) 0 (.int .i64 0) := ownJ; have r10 := o_r10.1; have f_r10 := o_r10.2; have o_r11 : Own (w1) (w.heap.size + 1) 1 (.int .i64 0) := ownJ; have r11 := o_r11.1; have f_r11 := o_r11.2
    go_wp2_with fail
    refine (Whole_any _).mono ?_
    rintro e w2 ⟨rfl, hb2⟩
    have hs2 : _ ≤ w2.heap.size := hb2.size
    try simp at hs2
    have o_q20 : Own (w2) (w.heap.size + 1) 0 (.int .i64 0) := ownJ; obtain ⟨q20, f_q20⟩ := o_q20; have o_q21 : Own (w2) (w.heap.size + 1) 1 (.int .i64 0) := ownJ; obtain ⟨q21, f_q21⟩ := o_q21
    go_wp2
    exact bodyPost_ret (v := .agg #[.int .i64 (-1152921504606846976), .int .i64 1152921504606846976]) (by simp [results, Tryz.results154, go_sem, q20, q21]) rfl ⟨(by first | (rw [E.out]; done) | (rw [E.out]; rfl) | (simp [E.out]; done)), belB⟩
end Go.Proofs.YtmikjgbojknlnaaGreatDoor
