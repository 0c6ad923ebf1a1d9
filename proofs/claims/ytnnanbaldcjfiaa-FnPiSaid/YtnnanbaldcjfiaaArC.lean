/- A contract of the model's arc cotangent. Conditions: numbers are int64. -/
import Derived.Test.YtnnanbaldcjfiaaArA
import Derived.Test.YtnnanbaldcjfiaaIvN
import Derived.Test.YtnnanbaldcjfiaaIvM
import Derived.Test.YtnnanbaldcjfiaaIvX
import Derived.Test.YtnnanbaldcjfiaaIvLd
import Derived.Test.YtnnanbaldcjfiaaWideZe
import Derived.LoopN
import Derived.Handy
import Derived.Deep.RegionHeld3
import Derived.Deep.DeepCutAuto
import Derived.Outline
namespace Go.Proofs.Ytnnanbaldcjfiaa
open Go.ChangeShapes Go.WideShapes Go.ChangeAt Go.RowKit
set_option linter.unusedVariables false
set_option maxRecDepth 100000
set_option linter.unusedSimpArgs false
set_option maxHeartbeats 1000000
theorem tmod_odd {j : Nat} (h : j % 2 = 0) : ((j : Int) + 1).tmod 2 = 1 := by rw [Int.tmod_eq_emod_of_nonneg (by omega)]; omega
theorem tmod_even {j : Nat} (h : ¬ j % 2 = 0) : ((j : Int) + 1).tmod 2 = 0 := by rw [Int.tmod_eq_emod_of_nonneg (by omega)]; omega
set_option maxHeartbeats 4000000 in
theorem sArcIn (n : Int) (T : Nat) (n0 : 2 ≤ n) (n1 : n ≤ 1000) (t0 : 1 ≤ T) (t1 : T ≤ 40) (w : World) : Calls Try.prog 25 #[.int .i64 n, .int .i64 (T : Int)] w fun e w' =>
    e = .returned (.agg #[.int .i64 (arcS n T T).1, .int .i64 (arcS n T T).2]) ∧ Below w.heap.size w w' := by
  have Q := Lib.hid (fun w => sQuotient_any 1 n (by unfold In64; omega) (by unfold In64; omega) w)
  have NN : IntKind.i64.wrap (n * n) = n * n := by
    have h : n * n ≤ 1000 * 1000 := Int.mul_le_mul n1 n1 (by omega) (by omega)
    have h' : 0 ≤ n * n := Int.mul_nonneg (by omega) (by omega)
    rw [IntKind.wrap_i64]; omega
  have NI : In64 (n * n) := by
    have h : n * n ≤ 1000 * 1000 := Int.mul_le_mul n1 n1 (by omega) (by omega)
    have h' : 0 ≤ n * n := Int.mul_nonneg (by omega) (by omega)
    unfold In64; omega
  have IN := Lib.hid (fun w => sInteger_any (n * n) NI w)
  have I0 := Lib.hid (fun w => sInteger_any 0 (by unfold In64; omega) w)
  have LN := Lib.hid (fun w => l00In_yes n 2 1000 n0 n1 w)
  have LT := Lib.hid (fun w => l00In_yes (T : Int) 1 40 (by omega) (by omega) w)
  clear NI
  go_enter Try.func25, Try.ntmps25
  go_wp2_with fail
  refine (LN.out _).mono ?_
  rintro e w0 ⟨rfl, hw⟩
  subst w0
  go_wp2_with fail
  refine (LT.out _).mono ?_
  rintro e w0 ⟨rfl, hw⟩
  subst w0
  go_wp2_with fail
  refine (Q.out _).mono ?_
  rintro e w1 ⟨rfl, hb1⟩
  have hs1 : _ ≤ w1.heap.size := hb1.size
  try simp at hs1
  have o_r10 : Own (w1) (w.heap.size) 0 (.int .i64 0) := ownJ; have r10 := o_r10.1; have f_r10 := o_r10.2; have o_r11 : Own (w1) (w.heap.size) 1 (.int .i64 0) := ownJ; have r11 := o_r11.1; have f_r11 := o_r11.2
  have lr := World.block_lt_of_cell? _ _ r10
  obtain ⟨g, hg⟩ : ∃ g, g = w1.heap.size := ⟨_, rfl⟩
  have HG := Lib.hid hg
  have lg : w.heap.size < g := by omega
  have bw : Below w.heap.size w w1 := belB
  go_wp2_with fail
  rw [← hg]
  clear hg
  go_loopw [7] (fun k wr => ∃ j : Nat, j ≤ T ∧ k = .int .i64 ((j : Int) + 1) ∧ Own wr g 0 (.int .i64 (arcP n j).1) ∧ Own wr g 1 (.int .i64 (arcP n j).2) ∧ Own wr (g + 1) 0 (.int .i64 (arcS n T j).1) ∧ Own wr (g + 1) 1 (.int .i64 (arcS n T j).2) ∧ Own wr w.heap.size 0 (.int .i64 0) ∧ Own wr w.heap.size 1 (.int .i64 0) ∧ Below w.heap.size w wr) (fun k _ => ((T : Int) + 1 - intOf k).toNat)
  case atStart =>
    have hg := HG.out
    subst hg
    exact ⟨0, by omega, rfl, ⟨by simp [go_sem, arcP], by simp [go_sem]⟩, ⟨by simp [go_sem, arcP], by simp [go_sem]⟩, ⟨by simp [go_sem, arcS], by simp [go_sem]⟩, ⟨by simp [go_sem, arcS], by simp [go_sem]⟩, own_alloc (own_alloc o_r10), own_alloc (own_alloc o_r11), belB⟩
  case round =>
    obtain ⟨j, hj, rfl, p0, p1, s0, s1, r0, r1, hb⟩ := hrel
    clear bw hb1 hs1 o_r10 o_r11 r10 r11 f_r10 f_r11 lr
    have hsz := hb.size
    have lp : g < wr.heap.size := World.block_lt_of_cell? _ _ p0.1
    have lq : g + 1 < wr.heap.size := World.block_lt_of_cell? _ _ s0.1
    by_cases k : j < T
    · have k1 : (j : Int) + 1 ≤ T := by omega
      have hpp : ∃ x, x = arcP n (j + 1) := ⟨_, rfl⟩
      obtain ⟨pp, hpp⟩ := hpp
      have htt : ∃ x, x = arcT n (j + 1) := ⟨_, rfl⟩
      obtain ⟨tt, htt⟩ := htt
      have DP := Lib.hid (fun w => sDivI_any (arcP n j) (intI (n * n)) w)
      have e1 : divI (arcP n j) (intI (n * n)) = pp := by rw [hpp]; rfl
      rw [e1] at DP
      have WK : IntKind.i64.wrap (2 * ((j : Int) + 1)) = 2 * ((j : Int) + 1) := by rw [IntKind.wrap_i64]; omega
      have WK2 : IntKind.i64.wrap (2 * ((j : Int) + 1) + 1) = 2 * ((j : Int) + 1) + 1 := by rw [IntKind.wrap_i64]; omega
      have IA := Lib.hid (fun w => sInteger_any (2 * ((j : Int) + 1) + 1) (by unfold In64; omega) w)
      have DT := Lib.hid (fun w => sDivI_any pp (intI (2 * ((j : Int) + 1) + 1)) w)
      have e2 : divI pp (intI (2 * ((j : Int) + 1) + 1)) = tt := by rw [hpp, htt]; unfold arcT; rw [show ((j + 1 : Nat) : Int) = (j : Int) + 1 by omega]
      rw [e2] at DT
      obtain ⟨ll, hll⟩ : ∃ x, x = arcL n T (j + 1) := ⟨_, rfl⟩
      have HPP := Lib.hid hpp
      obtain ⟨ss, hss⟩ : ∃ x, x = arcS n T (j + 1) := ⟨_, rfl⟩
      have HSS := Lib.hid hss
      have SS : ss = if j % 2 = 0 then subI (arcS n T j) ll else addI (arcS n T j) ll := by rw [hss, hll]; rfl
      have LL : ll = if j + 1 = T then hulI tt (intI 0) else tt := by rw [hll, htt]; rfl
      have SB := Lib.hid (fun w => sSubI_any (arcS n T j) ll w)
      have AB := Lib.hid (fun w => sAddI_any (arcS n T j) ll w)
      have HU := Lib.hid (fun w => sHullI_any tt (intI 0) w)
      clear hpp htt e1 e2 hll hss
      generalize intI (n * n) = i2 at *
      generalize intI (2 * ((j : Int) + 1) + 1) = i3 at *
      generalize hulI tt (intI 0) = hu0 at *
      generalize intI 0 = i0 at *
      generalize arcP n j = p at *
      generalize arcS n T j = s at *
      obtain ⟨cp0, fp0⟩ := id p0
      obtain ⟨cp1, fp1⟩ := id p1
      go_wp2_with fail
      refine AnyS.region (S := OneS 6 (fun u => u.cell? ⟨g, 0, none⟩ = some (.int .i64 p.1) ∧ u.cell? ⟨g, 1, none⟩ = some (.int .i64 p.2))) (by kernel_rfl) (show AnyS _ _ _ _ _ 7 _ _ _ from ?_)
      refine AnyS.take (i := 0) (v := .agg #[.int .i64 p.1, .int .i64 p.2]) (T := fun u => u.cell? ⟨g, 0, none⟩ = some (.int .i64 p.1) ∧ u.cell? ⟨g, 1, none⟩ = some (.int .i64 p.2)) [5, 6] rfl (by kernel_rfl) (by kernel_rfl) (by kernel_rfl) (by kernel_rfl) (by kernel_rfl) (fun _ _ _ h => h) (fun L u q s => s (q 6 (by simp))) (fun L u s => OneS.less (by decide) s) (Or.inl ⟨by rfl, ?_⟩) (fun _ => ⟨cp0, cp1⟩) ?_
      · intro u hu
        obtain ⟨u0, u1⟩ := hu
        go_simp
      try simp only [Act.put, List.setIfInBounds_toArray, List.set_cons_zero, List.set_cons_succ]
      refine AnyS.take (i := 1) (v := .int .i64 n) (T := fun _ => True) [] rfl (by kernel_rfl) (by kernel_rfl) (by kernel_rfl) (by kernel_rfl) (by kernel_rfl) (fun _ _ _ h => h) (fun L u q s => trivial) (fun L u s => OneS.less (by decide) s) (Or.inl ⟨by rfl, ?_⟩) (fun _ => ⟨cp0, cp1⟩) ?_
      · intro u hu
        clear hu
        go_simp
      try simp only [Act.put, List.setIfInBounds_toArray, List.set_cons_zero, List.set_cons_succ]
      refine AnyS.take (i := 2) (v := .int .i64 n) (T := fun _ => True) [] rfl (by kernel_rfl) (by kernel_rfl) (by kernel_rfl) (by kernel_rfl) (by kernel_rfl) (fun _ _ _ h => h) (fun L u q s => trivial) (fun L u s => OneS.less (by decide) s) (Or.inl ⟨by rfl, ?_⟩) (fun _ => ⟨cp0, cp1⟩) ?_
      · intro u hu
        clear hu
        go_simp
      try simp only [Act.put, List.setIfInBounds_toArray, List.set_cons_zero, List.set_cons_succ]
      refine AnyS.take (i := 3) (v := .int .i64 (n * n)) (T := fun _ => True) [] rfl (by kernel_rfl) (by kernel_rfl) (by kernel_rfl) (by kernel_rfl) (by kernel_rfl) (fun _ _ _ h => h) (fun L u q s => trivial) (fun L u s => OneS.less (by decide) s) (Or.inl ⟨by rfl, ?_⟩) (fun _ => ⟨cp0, cp1⟩) ?_
      · intro u hu
        clear hu
        go_simp
      try simp only [Act.put, List.setIfInBounds_toArray, List.set_cons_zero, List.set_cons_succ]
      refine AnyS.one (i := 4) (by kernel_rfl) (AnyS.comes rfl (fun K hK => ?_))
      go_simp
      refine (IN.out _).mono ?_
      rintro e w4 ⟨rfl, hb4⟩
      have hs4 : _ ≤ w4.heap.size := hb4.size
      try simp at hs4
      have o_h0_4 : Own w4 g 0 (.int .i64 p.1) := own_kept hb4 (own_drew p0)
      have o_h1_4 : Own w4 g 1 (.int .i64 p.2) := own_kept hb4 (own_drew p1)
      have o_s0_4 : Own w4 (g + 1) 0 (.int .i64 s.1) := own_kept hb4 (own_drew s0)
      have o_s1_4 : Own w4 (g + 1) 1 (.int .i64 s.2) := own_kept hb4 (own_drew s1)
      have o_r0_4 : Own w4 w.heap.size 0 (.int .i64 0) := own_kept hb4 (own_drew r0)
      have o_r1_4 : Own w4 w.heap.size 1 (.int .i64 0) := own_kept hb4 (own_drew r1)
      go_wp2_with fail
      refine hK.out _ _ (fun _ => ⟨o_h0_4.1, o_h1_4.1⟩) ?_
      clear hK K
      try simp only [Act.put, List.setIfInBounds_toArray, List.set_cons_zero, List.set_cons_succ]
      refine AnyS.one (i := 5) (by kernel_rfl) (AnyS.comes rfl (fun K hK => ?_))
      go_simp
      refine (DP.out _).mono ?_
      rintro e w5 ⟨rfl, hb5⟩
      have hs5 : _ ≤ w5.heap.size := hb5.size
      try simp at hs5
      have o_h0_5 : Own w5 g 0 (.int .i64 p.1) := own_kept hb5 o_h0_4
      have o_h1_5 : Own w5 g 1 (.int .i64 p.2) := own_kept hb5 o_h1_4
      have o_s0_5 : Own w5 (g + 1) 0 (.int .i64 s.1) := own_kept hb5 o_s0_4
      have o_s1_5 : Own w5 (g + 1) 1 (.int .i64 s.2) := own_kept hb5 o_s1_4
      have o_r0_5 : Own w5 w.heap.size 0 (.int .i64 0) := own_kept hb5 o_r0_4
      have o_r1_5 : Own w5 w.heap.size 1 (.int .i64 0) := own_kept hb5 o_r1_4
      go_wp2_with fail
      refine hK.out _ _ (fun _ => ⟨o_h0_5.1, o_h1_5.1⟩) ?_
      clear hK K
      try simp only [Act.put, List.setIfInBounds_toArray, List.set_cons_zero, List.set_cons_succ]
      obtain ⟨ch0, fh0⟩ := id o_h0_5
      obtain ⟨ch1, fh1⟩ := id o_h1_5
      refine AnyS.one (i := 6) (by kernel_rfl) (AnyS.comes rfl (fun K hK => ?_))
      go_simp
      refine hK.out _ _ (fun h => absurd h (by decide)) ?_
      clear hK K
      try simp only [Act.put, List.setIfInBounds_toArray, List.set_cons_zero, List.set_cons_succ]
      refine AnyS.done (by kernel_rfl) ?_ _
      obtain ⟨u, hu⟩ : ∃ x, x = (w5.setCell ⟨g, 0, none⟩ (.int .i64 pp.1)).setCell ⟨g, 1, none⟩ (.int .i64 pp.2) := ⟨_, rfl⟩
      rw [← hu]
      have P0 : Own u g 0 (.int .i64 pp.1) := by rw [hu]; exact own_next' (by decide) (own_put' o_h0_5)
      have P1 : Own u g 1 (.int .i64 pp.2) := by rw [hu]; exact own_put' (own_next' (by decide) o_h1_5)
      have S0 : Own u (g + 1) 0 (.int .i64 s.1) := by rw [hu]; exact own_far' (by dsimp only; omega) (own_far' (by dsimp only; omega) o_s0_5)
      have S1 : Own u (g + 1) 1 (.int .i64 s.2) := by rw [hu]; exact own_far' (by dsimp only; omega) (own_far' (by dsimp only; omega) o_s1_5)
      have R0 : Own u w.heap.size 0 (.int .i64 0) := by rw [hu]; exact own_far' (by dsimp only; omega) (own_far' (by dsimp only; omega) o_r0_5)
      have R1 : Own u w.heap.size 1 (.int .i64 0) := by rw [hu]; exact own_far' (by dsimp only; omega) (own_far' (by dsimp only; omega) o_r1_5)
      have bu : Below w.heap.size w u := by rw [hu]; exact belB
      clear hu
      have lu : g + 1 < u.heap.size := World.block_lt_of_cell? _ _ S0.1
      have bs := bu.size
      obtain ⟨CP0, FP0⟩ := id P0
      obtain ⟨CP1, FP1⟩ := id P1
      clear o_h0_4 o_h1_4 o_s0_4 o_s1_4 o_r0_4 o_r1_4 o_h0_5 o_h1_5 o_s0_5 o_s1_5 o_r0_5 o_r1_5 ch0 fh0 ch1 fh1 cp0 fp0 cp1 fp1 p0 p1 s0 s1 r0 r1 hb4 hb5 hs4 hs5 hb
      go_upto_region 9 with fail
      go_cut [8] from 21 to 52 (fun s8 wx => ∃ h : Nat, s8 = .pointer (some ⟨h, 0, none⟩) ∧ Own wx h 0 (.int .i64 tt.1) ∧ Own wx h 1 (.int .i64 tt.2) ∧ g + 1 < h ∧ Own wx g 0 (.int .i64 pp.1) ∧ Own wx g 1 (.int .i64 pp.2) ∧ Own wx (g + 1) 0 (.int .i64 s.1) ∧ Own wx (g + 1) 1 (.int .i64 s.2) ∧ Own wx w.heap.size 0 (.int .i64 0) ∧ Own wx w.heap.size 1 (.int .i64 0) ∧ Below w.heap.size w wx)
      case first =>
        obtain ⟨hlt2, hlt3, hlt4, hlt5, hlt6, hlt7, hlt8, hlt9, hlt10, hlt11⟩ := below_add; go_region_held3 (fun w' => w'.cell? ⟨g, 0, none⟩ = some (.int .i64 pp.1) ∧ w'.cell? ⟨g, 1, none⟩ = some (.int .i64 pp.2)) (first | (with_reducible exact ((And.imp (cell_kept (by assumption)) (cell_kept (by assumption))) (by assumption))) | (with_reducible exact ((And.imp (cell_alloc) (cell_alloc)) (by assumption))) | (with_reducible exact ((And.imp (fun h => cell_far (by first | (simp; done) | (simp; omega) | (dsimp only; omega)) (cell_far (by first | (simp; done) | (simp; omega) | (dsimp only; omega)) h)) (fun h => cell_far (by first | (simp; done) | (simp; omega) | (dsimp only; omega)) (cell_far (by first | (simp; done) | (simp; omega) | (dsimp only; omega)) h))) (by assumption))) | (refine ⟨?_, ?_⟩ <;> repeat (first | (with_reducible assumption) | (with_reducible refine cell_far (by first | (simp; done) | (simp; omega) | (dsimp only; omega)) ?_) | (with_reducible refine cell_drew ?_) | (with_reducible refine cell_drewN ?_) | (with_reducible refine cell_kept (by assumption) ?_) | (simp [go_sem]; done) | (with_reducible refine cell_alloc ?_))) | (simp [go_sem, *]; done)) (first | (go_at_call 73; with_reducible refine (IA.out _).mono ?_; rintro e w1 ⟨rfl, hb⟩; have hs : _ ≤ w1.heap.size := hb.size; (try simp at hs); obtain ⟨hc, hf, hl, hn, hm⟩ := behind hb) | (go_at_call 21; with_reducible refine (DT.out _).mono ?_; rintro e w1 ⟨rfl, hb⟩; have hs : _ ≤ w1.heap.size := hb.size; (try simp at hs); obtain ⟨hc, hf, hl, hn, hm⟩ := behind hb))
        all_goals (go_wp2_with fail; go_meet)
        · have o_a0 : Own (w1) (g) 0 (.int .i64 pp.1) := ownJ; have a0 := o_a0.1; have f_a0 := o_a0.2; have o_a1 : Own (w1) (g) 1 (.int .i64 pp.2) := ownJ; have a1 := o_a1.1; have f_a1 := o_a1.2
          have o_b0 : Own (w1) (g + 1) 0 (.int .i64 s.1) := ownJ; have b0 := o_b0.1; have f_b0 := o_b0.2; have o_b1 : Own (w1) (g + 1) 1 (.int .i64 s.2) := ownJ; have b1 := o_b1.1; have f_b1 := o_b1.2
          have o_c0 : Own (w1) (w.heap.size) 0 (.int .i64 0) := ownJ; have c0 := o_c0.1; have f_c0 := o_c0.2; have o_c1 : Own (w1) (w.heap.size) 1 (.int .i64 0) := ownJ; have c1 := o_c1.1; have f_c1 := o_c1.2
          have lb := World.block_lt_of_cell? _ _ b0
          exact ⟨_, rfl, ⟨by simp [go_sem], by simp [go_sem]⟩, ⟨by simp [go_sem], by simp [go_sem]⟩, lb, own_alloc o_a0, own_alloc o_a1, own_alloc o_b0, own_alloc o_b1, own_alloc o_c0, own_alloc o_c1, belB⟩
        · have o_a0 : Own (w1) (g) 0 (.int .i64 pp.1) := ownJ; have a0 := o_a0.1; have f_a0 := o_a0.2; have o_a1 : Own (w1) (g) 1 (.int .i64 pp.2) := ownJ; have a1 := o_a1.1; have f_a1 := o_a1.2
          have o_b0 : Own (w1) (g + 1) 0 (.int .i64 s.1) := ownJ; have b0 := o_b0.1; have f_b0 := o_b0.2; have o_b1 : Own (w1) (g + 1) 1 (.int .i64 s.2) := ownJ; have b1 := o_b1.1; have f_b1 := o_b1.2
          have o_c0 : Own (w1) (w.heap.size) 0 (.int .i64 0) := ownJ; have c0 := o_c0.1; have f_c0 := o_c0.2; have o_c1 : Own (w1) (w.heap.size) 1 (.int .i64 0) := ownJ; have c1 := o_c1.1; have f_c1 := o_c1.2
          refine ⟨_, rfl, own_next' (by decide) (own_put' (v := .int .i64 0) ?_), own_put' (v := .int .i64 0) (own_next' (by decide) ?_), ?_, own_far' ?_ (own_far' ?_ o_a0), own_far' ?_ (own_far' ?_ o_a1), own_far' ?_ (own_far' ?_ o_b0), own_far' ?_ (own_far' ?_ o_b1), own_far' ?_ (own_far' ?_ o_c0), own_far' ?_ (own_far' ?_ o_c1), belB⟩
          · repeat (first | (with_reducible assumption) | (with_reducible refine own_drew ?_) | (with_reducible refine own_drewN ?_) | (with_reducible refine own_kept (by assumption) ?_) | (refine ⟨?_, ?_⟩ <;> simp [go_sem]; done) | (with_reducible refine own_alloc ?_))
          · repeat (first | (with_reducible assumption) | (with_reducible refine own_drew ?_) | (with_reducible refine own_drewN ?_) | (with_reducible refine own_kept (by assumption) ?_) | (refine ⟨?_, ?_⟩ <;> simp [go_sem]; done) | (with_reducible refine own_alloc ?_))
          all_goals first | omega | (dsimp only; omega) | (simp; omega)
        · have o_a0 : Own (w1) (g) 0 (.int .i64 pp.1) := ownJ; have a0 := o_a0.1; have f_a0 := o_a0.2; have o_a1 : Own (w1) (g) 1 (.int .i64 pp.2) := ownJ; have a1 := o_a1.1; have f_a1 := o_a1.2
          have o_b0 : Own (w1) (g + 1) 0 (.int .i64 s.1) := ownJ; have b0 := o_b0.1; have f_b0 := o_b0.2; have o_b1 : Own (w1) (g + 1) 1 (.int .i64 s.2) := ownJ; have b1 := o_b1.1; have f_b1 := o_b1.2
          have o_c0 : Own (w1) (w.heap.size) 0 (.int .i64 0) := ownJ; have c0 := o_c0.1; have f_c0 := o_c0.2; have o_c1 : Own (w1) (w.heap.size) 1 (.int .i64 0) := ownJ; have c1 := o_c1.1; have f_c1 := o_c1.2
          refine ⟨_, rfl, own_next' (by decide) (own_put' (v := .int .i64 0) ?_), own_put' (v := .int .i64 0) (own_next' (by decide) ?_), ?_, own_far' ?_ (own_far' ?_ o_a0), own_far' ?_ (own_far' ?_ o_a1), own_far' ?_ (own_far' ?_ o_b0), own_far' ?_ (own_far' ?_ o_b1), own_far' ?_ (own_far' ?_ o_c0), own_far' ?_ (own_far' ?_ o_c1), belB⟩
          · repeat (first | (with_reducible assumption) | (with_reducible refine own_drew ?_) | (with_reducible refine own_drewN ?_) | (with_reducible refine own_kept (by assumption) ?_) | (refine ⟨?_, ?_⟩ <;> simp [go_sem]; done) | (with_reducible refine own_alloc ?_))
          · repeat (first | (with_reducible assumption) | (with_reducible refine own_drew ?_) | (with_reducible refine own_drewN ?_) | (with_reducible refine own_kept (by assumption) ?_) | (refine ⟨?_, ?_⟩ <;> simp [go_sem]; done) | (with_reducible refine own_alloc ?_))
          all_goals first | omega | (dsimp only; omega) | (simp; omega)
      case rest =>
        obtain ⟨h, rfl, q0, q1, lh, P0, P1, S0, S1, R0, R1, bx⟩ := hcut
        have bxs := bx.size
        obtain ⟨cq0, fq0⟩ := id q0
        obtain ⟨cq1, fq1⟩ := id q1
        have lq0 : h < wc.heap.size := World.block_lt_of_cell? _ _ cq0
        by_cases last : j + 1 = T
        · rw [if_pos last] at LL
          subst LL
          have E1 : ((j : Int) + 1 == (T : Int)) = true := by simp; omega
          go_wp2_with fail
          refine AnyS.region (S := OneS 3 (fun u => u.cell? ⟨h, 0, none⟩ = some (.int .i64 tt.1) ∧ u.cell? ⟨h, 1, none⟩ = some (.int .i64 tt.2))) (by kernel_rfl) (show AnyS _ _ _ _ _ 4 _ _ _ from ?_)
          refine AnyS.take (i := 0) (v := .agg #[.int .i64 tt.1, .int .i64 tt.2]) (T := fun u => u.cell? ⟨h, 0, none⟩ = some (.int .i64 tt.1) ∧ u.cell? ⟨h, 1, none⟩ = some (.int .i64 tt.2)) [2, 3] rfl (by kernel_rfl) (by kernel_rfl) (by kernel_rfl) (by kernel_rfl) (by kernel_rfl) (fun _ _ _ h => h) (fun L u q s => s (q 3 (by simp))) (fun L u s => OneS.less (by decide) s) (Or.inl ⟨by rfl, ?_⟩) (fun _ => ⟨cq0, cq1⟩) ?_
          · intro u hu
            obtain ⟨u0, u1⟩ := hu
            go_simp
          try simp only [Act.put, List.setIfInBounds_toArray, List.set_cons_zero, List.set_cons_succ]
          refine AnyS.one (i := 1) (by kernel_rfl) (AnyS.comes rfl (fun K hK => ?_))
          go_simp
          refine (I0.out _).mono ?_
          rintro e w11 ⟨rfl, hb11⟩
          have hs11 : _ ≤ w11.heap.size := hb11.size
          try simp at hs11
          have o_h0_11 : Own w11 h 0 (.int .i64 tt.1) := own_kept hb11 (own_drew q0)
          have o_h1_11 : Own w11 h 1 (.int .i64 tt.2) := own_kept hb11 (own_drew q1)
          have o_P0_11 : Own w11 g 0 (.int .i64 pp.1) := own_kept hb11 (own_drew P0)
          have o_P1_11 : Own w11 g 1 (.int .i64 pp.2) := own_kept hb11 (own_drew P1)
          have o_S0_11 : Own w11 (g + 1) 0 (.int .i64 s.1) := own_kept hb11 (own_drew S0)
          have o_S1_11 : Own w11 (g + 1) 1 (.int .i64 s.2) := own_kept hb11 (own_drew S1)
          have o_R0_11 : Own w11 w.heap.size 0 (.int .i64 0) := own_kept hb11 (own_drew R0)
          have o_R1_11 : Own w11 w.heap.size 1 (.int .i64 0) := own_kept hb11 (own_drew R1)
          go_wp2_with fail
          refine hK.out _ _ (fun _ => ⟨o_h0_11.1, o_h1_11.1⟩) ?_
          clear hK K
          try simp only [Act.put, List.setIfInBounds_toArray, List.set_cons_zero, List.set_cons_succ]
          refine AnyS.one (i := 2) (by kernel_rfl) (AnyS.comes rfl (fun K hK => ?_))
          go_simp
          refine (HU.out _).mono ?_
          rintro e w12 ⟨rfl, hb12⟩
          have hs12 : _ ≤ w12.heap.size := hb12.size
          try simp at hs12
          have o_h0_12 : Own w12 h 0 (.int .i64 tt.1) := own_kept hb12 o_h0_11
          have o_h1_12 : Own w12 h 1 (.int .i64 tt.2) := own_kept hb12 o_h1_11
          have o_P0_12 : Own w12 g 0 (.int .i64 pp.1) := own_kept hb12 o_P0_11
          have o_P1_12 : Own w12 g 1 (.int .i64 pp.2) := own_kept hb12 o_P1_11
          have o_S0_12 : Own w12 (g + 1) 0 (.int .i64 s.1) := own_kept hb12 o_S0_11
          have o_S1_12 : Own w12 (g + 1) 1 (.int .i64 s.2) := own_kept hb12 o_S1_11
          have o_R0_12 : Own w12 w.heap.size 0 (.int .i64 0) := own_kept hb12 o_R0_11
          have o_R1_12 : Own w12 w.heap.size 1 (.int .i64 0) := own_kept hb12 o_R1_11
          go_wp2_with fail
          refine hK.out _ _ (fun _ => ⟨o_h0_12.1, o_h1_12.1⟩) ?_
          clear hK K
          try simp only [Act.put, List.setIfInBounds_toArray, List.set_cons_zero, List.set_cons_succ]
          obtain ⟨dh0, gh0⟩ := id o_h0_12
          obtain ⟨dh1, gh1⟩ := id o_h1_12
          refine AnyS.one (i := 3) (by kernel_rfl) (AnyS.comes rfl (fun K hK => ?_))
          go_simp
          refine hK.out _ _ (fun h => absurd h (by decide)) ?_
          clear hK K
          try simp only [Act.put, List.setIfInBounds_toArray, List.set_cons_zero, List.set_cons_succ]
          refine AnyS.done (by kernel_rfl) ?_ _
          obtain ⟨v, hv⟩ : ∃ x, x = (w12.setCell ⟨h, 0, none⟩ (.int .i64 ll.1)).setCell ⟨h, 1, none⟩ (.int .i64 ll.2) := ⟨_, rfl⟩
          rw [← hv]
          have vH0 : Own v h 0 (.int .i64 ll.1) := by rw [hv]; exact own_next' (by decide) (own_put' o_h0_12)
          have vH1 : Own v h 1 (.int .i64 ll.2) := by rw [hv]; exact own_put' (own_next' (by decide) o_h1_12)
          have vP0 : Own v g 0 (.int .i64 pp.1) := by rw [hv]; exact own_far' (by dsimp only; omega) (own_far' (by dsimp only; omega) o_P0_12)
          have vP1 : Own v g 1 (.int .i64 pp.2) := by rw [hv]; exact own_far' (by dsimp only; omega) (own_far' (by dsimp only; omega) o_P1_12)
          have vS0 : Own v (g + 1) 0 (.int .i64 s.1) := by rw [hv]; exact own_far' (by dsimp only; omega) (own_far' (by dsimp only; omega) o_S0_12)
          have vS1 : Own v (g + 1) 1 (.int .i64 s.2) := by rw [hv]; exact own_far' (by dsimp only; omega) (own_far' (by dsimp only; omega) o_S1_12)
          have vR0 : Own v w.heap.size 0 (.int .i64 0) := by rw [hv]; exact own_far' (by dsimp only; omega) (own_far' (by dsimp only; omega) o_R0_12)
          have vR1 : Own v w.heap.size 1 (.int .i64 0) := by rw [hv]; exact own_far' (by dsimp only; omega) (own_far' (by dsimp only; omega) o_R1_12)
          have bv : Below w.heap.size w v := by rw [hv]; exact belB
          clear hv
          have bvs := bv.size
          have lv : g + 1 < v.heap.size := World.block_lt_of_cell? _ _ vS0.1
          by_cases par : j % 2 = 0
          · rw [if_pos par] at SS
            rw [← SS] at SB
            clear SS
            have M := tmod_odd par
            obtain ⟨cS0, fS0⟩ := id vS0
            obtain ⟨cS1, fS1⟩ := id vS1
            obtain ⟨cH0, fH0⟩ := id vH0
            obtain ⟨cH1, fH1⟩ := id vH1
            go_wp2_with fail
            refine (SB.out _).mono ?_
            rintro e w30 ⟨rfl, hb30⟩
            have hs30 : _ ≤ w30.heap.size := hb30.size
            try simp at hs30
            have zP0 : Own w30 g 0 (.int .i64 pp.1) := own_kept hb30 vP0
            have zP1 : Own w30 g 1 (.int .i64 pp.2) := own_kept hb30 vP1
            have zS0 : Own w30 (g + 1) 0 (.int .i64 s.1) := own_kept hb30 vS0
            have zS1 : Own w30 (g + 1) 1 (.int .i64 s.2) := own_kept hb30 vS1
            have zR0 : Own w30 w.heap.size 0 (.int .i64 0) := own_kept hb30 vR0
            have zR1 : Own w30 w.heap.size 1 (.int .i64 0) := own_kept hb30 vR1
            obtain ⟨dS0, eS0⟩ := id zS0
            obtain ⟨dS1, eS1⟩ := id zS1
            go_wp2
            go_roundw
            case rel => exact ⟨j + 1, by omega, by go_num, by rw [← HPP.out]; exact own_far' (by dsimp only; omega) (own_far' (by dsimp only; omega) zP0), by rw [← HPP.out]; exact own_far' (by dsimp only; omega) (own_far' (by dsimp only; omega) zP1), by rw [← HSS.out]; exact own_next' (by decide) (own_put' zS0), by rw [← HSS.out]; exact own_put' (own_next' (by decide) zS1), own_far' (by dsimp only; omega) (own_far' (by dsimp only; omega) zR0), own_far' (by dsimp only; omega) (own_far' (by dsimp only; omega) zR1), belB⟩
            case measure => first | (simp [intOf]; done) | (simp [intOf]; omega)
          · rw [if_neg par] at SS
            rw [← SS] at AB
            clear SS
            have M := tmod_even par
            obtain ⟨cS0, fS0⟩ := id vS0
            obtain ⟨cS1, fS1⟩ := id vS1
            obtain ⟨cH0, fH0⟩ := id vH0
            obtain ⟨cH1, fH1⟩ := id vH1
            go_wp2_with fail
            refine (AB.out _).mono ?_
            rintro e w30 ⟨rfl, hb30⟩
            have hs30 : _ ≤ w30.heap.size := hb30.size
            try simp at hs30
            have zP0 : Own w30 g 0 (.int .i64 pp.1) := own_kept hb30 vP0
            have zP1 : Own w30 g 1 (.int .i64 pp.2) := own_kept hb30 vP1
            have zS0 : Own w30 (g + 1) 0 (.int .i64 s.1) := own_kept hb30 vS0
            have zS1 : Own w30 (g + 1) 1 (.int .i64 s.2) := own_kept hb30 vS1
            have zR0 : Own w30 w.heap.size 0 (.int .i64 0) := own_kept hb30 vR0
            have zR1 : Own w30 w.heap.size 1 (.int .i64 0) := own_kept hb30 vR1
            obtain ⟨dS0, eS0⟩ := id zS0
            obtain ⟨dS1, eS1⟩ := id zS1
            go_wp2
            go_roundw
            case rel => exact ⟨j + 1, by omega, by go_num, by rw [← HPP.out]; exact own_far' (by dsimp only; omega) (own_far' (by dsimp only; omega) zP0), by rw [← HPP.out]; exact own_far' (by dsimp only; omega) (own_far' (by dsimp only; omega) zP1), by rw [← HSS.out]; exact own_next' (by decide) (own_put' zS0), by rw [← HSS.out]; exact own_put' (own_next' (by decide) zS1), own_far' (by dsimp only; omega) (own_far' (by dsimp only; omega) zR0), own_far' (by dsimp only; omega) (own_far' (by dsimp only; omega) zR1), belB⟩
            case measure => first | (simp [intOf]; done) | (simp [intOf]; omega)
        · rw [if_neg last] at LL
          subst LL
          have E1 : ((j : Int) + 1 == (T : Int)) = false := by simp; omega
          have nH0 := q0
          have nH1 := q1
          have nP0 := P0
          have nP1 := P1
          have nS0 := S0
          have nS1 := S1
          have nR0 := R0
          have nR1 := R1
          have lv : g + 1 < wc.heap.size := World.block_lt_of_cell? _ _ S0.1
          by_cases par : j % 2 = 0
          · rw [if_pos par] at SS
            rw [← SS] at SB
            clear SS
            have M := tmod_odd par
            obtain ⟨cS0, fS0⟩ := id nS0
            obtain ⟨cS1, fS1⟩ := id nS1
            obtain ⟨cH0, fH0⟩ := id nH0
            obtain ⟨cH1, fH1⟩ := id nH1
            go_wp2_with fail
            refine (SB.out _).mono ?_
            rintro e w30 ⟨rfl, hb30⟩
            have hs30 : _ ≤ w30.heap.size := hb30.size
            try simp at hs30
            have zP0 : Own w30 g 0 (.int .i64 pp.1) := own_kept hb30 nP0
            have zP1 : Own w30 g 1 (.int .i64 pp.2) := own_kept hb30 nP1
            have zS0 : Own w30 (g + 1) 0 (.int .i64 s.1) := own_kept hb30 nS0
            have zS1 : Own w30 (g + 1) 1 (.int .i64 s.2) := own_kept hb30 nS1
            have zR0 : Own w30 w.heap.size 0 (.int .i64 0) := own_kept hb30 nR0
            have zR1 : Own w30 w.heap.size 1 (.int .i64 0) := own_kept hb30 nR1
            obtain ⟨dS0, eS0⟩ := id zS0
            obtain ⟨dS1, eS1⟩ := id zS1
            go_wp2
            go_roundw
            case rel => exact ⟨j + 1, by omega, by go_num, by rw [← HPP.out]; exact own_far' (by dsimp only; omega) (own_far' (by dsimp only; omega) zP0), by rw [← HPP.out]; exact own_far' (by dsimp only; omega) (own_far' (by dsimp only; omega) zP1), by rw [← HSS.out]; exact own_next' (by decide) (own_put' zS0), by rw [← HSS.out]; exact own_put' (own_next' (by decide) zS1), own_far' (by dsimp only; omega) (own_far' (by dsimp only; omega) zR0), own_far' (by dsimp only; omega) (own_far' (by dsimp only; omega) zR1), belB⟩
            case measure => first | (simp [intOf]; done) | (simp [intOf]; omega)
          · rw [if_neg par] at SS
            rw [← SS] at AB
            clear SS
            have M := tmod_even par
            obtain ⟨cS0, fS0⟩ := id nS0
            obtain ⟨cS1, fS1⟩ := id nS1
            obtain ⟨cH0, fH0⟩ := id nH0
            obtain ⟨cH1, fH1⟩ := id nH1
            go_wp2_with fail
            refine (AB.out _).mono ?_
            rintro e w30 ⟨rfl, hb30⟩
            have hs30 : _ ≤ w30.heap.size := hb30.size
            try simp at hs30
            have zP0 : Own w30 g 0 (.int .i64 pp.1) := own_kept hb30 nP0
            have zP1 : Own w30 g 1 (.int .i64 pp.2) := own_kept hb30 nP1
            have zS0 : Own w30 (g + 1) 0 (.int .i64 s.1) := own_kept hb30 nS0
            have zS1 : Own w30 (g + 1) 1 (.int .i64 s.2) := own_kept hb30 nS1
            have zR0 : Own w30 w.heap.size 0 (.int .i64 0) := own_kept hb30 nR0
            have zR1 : Own w30 w.heap.size 1 (.int .i64 0) := own_kept hb30 nR1
            obtain ⟨dS0, eS0⟩ := id zS0
            obtain ⟨dS1, eS1⟩ := id zS1
            go_wp2
            go_roundw
            case rel => exact ⟨j + 1, by omega, by go_num, by rw [← HPP.out]; exact own_far' (by dsimp only; omega) (own_far' (by dsimp only; omega) zP0), by rw [← HPP.out]; exact own_far' (by dsimp only; omega) (own_far' (by dsimp only; omega) zP1), by rw [← HSS.out]; exact own_next' (by decide) (own_put' zS0), by rw [← HSS.out]; exact own_put' (own_next' (by decide) zS1), own_far' (by dsimp only; omega) (own_far' (by dsimp only; omega) zR0), own_far' (by dsimp only; omega) (own_far' (by dsimp only; omega) zR1), belB⟩
            case measure => first | (simp [intOf]; done) | (simp [intOf]; omega)
    · have e : j = T := by omega
      subst e
      obtain ⟨cs0, fs0⟩ := id s0
      obtain ⟨cs1, fs1⟩ := id s1
      obtain ⟨cr0, fr0⟩ := id r0
      obtain ⟨cr1, fr1⟩ := id r1
      go_wp2
      exact bodyPost_ret (v := .agg #[.int .i64 (arcS n j j).1, .int .i64 (arcS n j j).2]) (by simp [results, Try.results25, go_sem, cr0, cr1]) rfl ⟨rfl, belB⟩
end Go.Proofs.Ytnnanbaldcjfiaa
