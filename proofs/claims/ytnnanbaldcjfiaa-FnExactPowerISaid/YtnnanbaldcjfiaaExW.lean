/- Contracts of powers of intervals, program and model. Conditions: numbers are int64. -/
import Derived.Test.YtnnanbaldcjfiaaExN
import Derived.Test.YtnnanbaldcjfiaaExB
import Derived.Test.YtnnanbaldcjfiaaIvF
import Derived.Test.YtnnanbaldcjfiaaIvT
import Derived.Test.YtnnanbaldcjfiaaIvM
import Derived.Test.YtnnanbaldcjfiaaIvN
import Derived.Test.YtnnanbaldcjfiaaIvS
import Derived.Test.YtnnanbaldcjfiaaIvW
import Derived.Test.YtnnanbaldcjfiaaIvLd
import Derived.Test.YtnnanbaldcjfiaaIvK
import Derived.LoopN
import Derived.Deep.DeepCutAuto
import Derived.Handy
import Derived.Outline
namespace Go.Proofs.Ytnnanbaldcjfiaa
open Go.ChangeShapes Go.WideShapes Go.ChangeAt Go.RowKit
set_option linter.unusedVariables false
set_option maxRecDepth 100000
set_option linter.unusedSimpArgs false
set_option maxHeartbeats 1000000
theorem powI_no {x : Iv} {n : Int} (h : ¬ (Bnd x ∧ 0 ≤ n ∧ n ≤ 16)) : powI x n = whl := if_neg h
theorem powI_zero {x : Iv} {n : Int} (h : Bnd x ∧ 0 ≤ n ∧ n ≤ 16) (z : n = 0) : powI x n = intI 1 := by unfold powI; rw [if_pos h, if_pos z]
theorem powI_some {x : Iv} {n : Int} (h : Bnd x ∧ 0 ≤ n ∧ n ≤ 16) (z : n ≠ 0) : powI x n = powP (powA x n) (n - 1).toNat := by unfold powI; rw [if_pos h, if_neg z]
theorem powA_flip {x : Iv} {n : Int} (h : n % 2 = 0 ∧ x.1 < 0) : powA x n = absI x := if_pos h
theorem powA_self {x : Iv} {n : Int} (h : ¬ (n % 2 = 0 ∧ x.1 < 0)) : powA x n = x := if_neg h
/-- Of what is not negative, the power is that of the value itself. -/
theorem powI_abs {x : Iv} {n : Int} (h : Bnd x ∧ 0 ≤ n ∧ n ≤ 16) (z : n ≠ 0) (f : n % 2 = 0 ∧ x.1 < 0) : powI x n = powI (absI x) n ∧ Bnd (absI x) ∧ ¬ (n % 2 = 0 ∧ (absI x).1 < 0) := by
  have ba : Bnd (absI x) := by rw [absI_yes h.1]; exact (abs_ends h.1).1
  have nn : ¬ (n % 2 = 0 ∧ (absI x).1 < 0) := by
    rw [absI_yes h.1]; unfold absN; intro k; have := k.2; simp only at this
    split at this <;> omega
  refine ⟨?_, ba, nn⟩
  rw [powI_some h z, powI_some ⟨ba, h.2⟩ z, powA_flip f, powA_self nn]
theorem tmod_two {n : Int} (h : 0 ≤ n) : n.tmod 2 = n % 2 := Int.tmod_eq_emod_of_nonneg h
theorem PowerI_no (x : Iv) (hx : Ok x) (n : Int) (hn : In64 n) (h : ¬ (Bnd x ∧ 0 ≤ n ∧ n ≤ 16)) (w : World) : Calls Try.prog 18 #[.agg #[.int .i64 x.1, .int .i64 x.2], .int .i64 n] w fun e w' =>
    e = .returned (.agg #[.int .i64 (powI x n).1, .int .i64 (powI x n).2]) ∧ Below w.heap.size w w' := by
  have W := Lib.hid (fun w => IsWhole_any x w)
  have E := Lib.hid (powI_no h)
  by_cases b : Bnd x
  · have HB := Lib.hid (show (!bnd x) = false by rw [bnd_yes b]; rfl)
    by_cases c : n < 0
    · have c0 : decide (n < 0) = true := decide_eq_true c
      clear h b c
      generalize powI x n = Y at *
      go_enter Try.func18, Try.ntmps18
      go_wp2_with fail
      refine (W.out _).mono ?_
      rintro e w1 ⟨rfl, hb1⟩
      have hs1 : _ ≤ w1.heap.size := hb1.size
      try simp at hs1
      rw [HB.out]
      have o_r10 : Own (w1) (w.heap.size + 1) 0 (.int .i64 0) := ownJ; have r10 := o_r10.1; have f_r10 := o_r10.2; have o_r11 : Own (w1) (w.heap.size + 1) 1 (.int .i64 0) := ownJ; have r11 := o_r11.1; have f_r11 := o_r11.2
      go_wp2_with fail
      refine (Whole_any _).mono ?_
      rintro e w2 ⟨rfl, hb2⟩
      have hs2 : _ ≤ w2.heap.size := hb2.size
      try simp at hs2
      have o_q20 : Own (w2) (w.heap.size + 1) 0 (.int .i64 0) := ownJ; obtain ⟨q20, f_q20⟩ := o_q20; have o_q21 : Own (w2) (w.heap.size + 1) 1 (.int .i64 0) := ownJ; obtain ⟨q21, f_q21⟩ := o_q21
      go_wp2
      exact bodyPost_ret (v := .agg #[.int .i64 (-1152921504606846976), .int .i64 1152921504606846976]) (by simp [results, Try.results18, go_sem, q20, q21]) rfl ⟨(by first | (rw [E.out]; done) | (rw [E.out]; rfl) | (simp [E.out]; done)), belB⟩
    · have c0 : decide (n < 0) = false := decide_eq_false c
      have c1 : decide (16 < n) = true := decide_eq_true (by by_cases q : n ≤ 16; exact absurd ⟨b, by omega, q⟩ h; omega)
      clear h b c
      generalize powI x n = Y at *
      go_enter Try.func18, Try.ntmps18
      go_wp2_with fail
      refine (W.out _).mono ?_
      rintro e w1 ⟨rfl, hb1⟩
      have hs1 : _ ≤ w1.heap.size := hb1.size
      try simp at hs1
      rw [HB.out]
      have o_r10 : Own (w1) (w.heap.size + 1) 0 (.int .i64 0) := ownJ; have r10 := o_r10.1; have f_r10 := o_r10.2; have o_r11 : Own (w1) (w.heap.size + 1) 1 (.int .i64 0) := ownJ; have r11 := o_r11.1; have f_r11 := o_r11.2
      go_wp2_with fail
      refine (Whole_any _).mono ?_
      rintro e w2 ⟨rfl, hb2⟩
      have hs2 : _ ≤ w2.heap.size := hb2.size
      try simp at hs2
      have o_q20 : Own (w2) (w.heap.size + 1) 0 (.int .i64 0) := ownJ; obtain ⟨q20, f_q20⟩ := o_q20; have o_q21 : Own (w2) (w.heap.size + 1) 1 (.int .i64 0) := ownJ; obtain ⟨q21, f_q21⟩ := o_q21
      go_wp2
      exact bodyPost_ret (v := .agg #[.int .i64 (-1152921504606846976), .int .i64 1152921504606846976]) (by simp [results, Try.results18, go_sem, q20, q21]) rfl ⟨(by first | (rw [E.out]; done) | (rw [E.out]; rfl) | (simp [E.out]; done)), belB⟩
  · have HB := Lib.hid (show (!bnd x) = true by rw [bnd_no b]; rfl)
    clear h b
    generalize powI x n = Y at *
    go_enter Try.func18, Try.ntmps18
    go_wp2_with fail
    refine (W.out _).mono ?_
    rintro e w1 ⟨rfl, hb1⟩
    have hs1 : _ ≤ w1.heap.size := hb1.size
    try simp at hs1
    rw [HB.out]
    have o_r10 : Own (w1) (w.heap.size + 1) 0 (.int .i64 0) := ownJ; have r10 := o_r10.1; have f_r10 := o_r10.2; have o_r11 : Own (w1) (w.heap.size + 1) 1 (.int .i64 0) := ownJ; have r11 := o_r11.1; have f_r11 := o_r11.2
    go_wp2_with fail
    refine (Whole_any _).mono ?_
    rintro e w2 ⟨rfl, hb2⟩
    have hs2 : _ ≤ w2.heap.size := hb2.size
    try simp at hs2
    have o_q20 : Own (w2) (w.heap.size + 1) 0 (.int .i64 0) := ownJ; obtain ⟨q20, f_q20⟩ := o_q20; have o_q21 : Own (w2) (w.heap.size + 1) 1 (.int .i64 0) := ownJ; obtain ⟨q21, f_q21⟩ := o_q21
    go_wp2
    exact bodyPost_ret (v := .agg #[.int .i64 (-1152921504606846976), .int .i64 1152921504606846976]) (by simp [results, Try.results18, go_sem, q20, q21]) rfl ⟨(by first | (rw [E.out]; done) | (rw [E.out]; rfl) | (simp [E.out]; done)), belB⟩
theorem PowerI_zero (x : Iv) (hx : Ok x) (n : Int) (h : Bnd x ∧ 0 ≤ n ∧ n ≤ 16) (z : n = 0) (w : World) : Calls Try.prog 18 #[.agg #[.int .i64 x.1, .int .i64 x.2], .int .i64 n] w fun e w' =>
    e = .returned (.agg #[.int .i64 (powI x n).1, .int .i64 (powI x n).2]) ∧ Below w.heap.size w w' := by
  have W := Lib.hid (fun w => IsWhole_any x w)
  have HB := Lib.hid (show (!bnd x) = false by rw [bnd_yes h.1]; rfl)
  have n0 : 0 ≤ n := h.2.1
  have n1 : n ≤ 16 := h.2.2
  have c0 : decide (n < 0) = false := decide_eq_false (by omega)
  have c1 : decide (16 < n) = false := decide_eq_false (by omega)
  have T2 := tmod_two n0
  have E := Lib.hid (powI_zero h z)
  have I := Lib.hid (fun w => Integer_any 1 (by unfold In64; omega) w)
  have z0 : (n == 0) = true := by simpa using z
  clear h z
  generalize powI x n = Y at *
  generalize intI 1 = i at *
  go_enter Try.func18, Try.ntmps18
  go_wp2_with fail
  refine (W.out _).mono ?_
  rintro e w1 ⟨rfl, hb1⟩
  have hs1 : _ ≤ w1.heap.size := hb1.size
  try simp at hs1
  rw [HB.out]
  have o_r10 : Own (w1) (w.heap.size + 1) 0 (.int .i64 0) := ownJ; have r10 := o_r10.1; have f_r10 := o_r10.2; have o_r11 : Own (w1) (w.heap.size + 1) 1 (.int .i64 0) := ownJ; have r11 := o_r11.1; have f_r11 := o_r11.2
  go_wp2_with fail
  refine (I.out _).mono ?_
  rintro e w2 ⟨rfl, hb2⟩
  have hs2 : _ ≤ w2.heap.size := hb2.size
  try simp at hs2
  have o_q20 : Own (w2) (w.heap.size + 1) 0 (.int .i64 0) := ownJ; obtain ⟨q20, f_q20⟩ := o_q20; have o_q21 : Own (w2) (w.heap.size + 1) 1 (.int .i64 0) := ownJ; obtain ⟨q21, f_q21⟩ := o_q21
  go_wp2
  exact bodyPost_ret (v := .agg #[.int .i64 (i).1, .int .i64 (i).2]) (by simp [results, Try.results18, go_sem, q20, q21]) rfl ⟨by rw [E.out], belB⟩
set_option maxHeartbeats 8000000 in
theorem PowerI_self (x : Iv) (hx : Ok x) (n : Int) (h : Bnd x ∧ 0 ≤ n ∧ n ≤ 16) (z : n ≠ 0) (f : ¬ (n % 2 = 0 ∧ x.1 < 0)) (w : World) : Calls Try.prog 18 #[.agg #[.int .i64 x.1, .int .i64 x.2], .int .i64 n] w fun e w' =>
    e = .returned (.agg #[.int .i64 (powI x n).1, .int .i64 (powI x n).2]) ∧ Below w.heap.size w w' := by
  have W := Lib.hid (fun w => IsWhole_any x w)
  have HB := Lib.hid (show (!bnd x) = false by rw [bnd_yes h.1]; rfl)
  have n0 : 0 ≤ n := h.2.1
  have n1 : n ≤ 16 := h.2.2
  have c0 : decide (n < 0) = false := decide_eq_false (by omega)
  have c1 : decide (16 < n) = false := decide_eq_false (by omega)
  have T2 := tmod_two n0
  have E_ := (powI_some h z).trans (by rw [powA_self f])
  have E := Lib.hid E_
  clear E_
  have z0 : (n == 0) = false := by simpa using z
  have WN : IntKind.i64.wrap (n - 1) = n - 1 := wrapS (by unfold In64; omega)
  obtain ⟨y, hy⟩ : ∃ y, y = x := ⟨_, rfl⟩
  rw [← hy] at E hx
  have hnz : 1 ≤ n := by omega
  by_cases e2 : n % 2 = 0
  · have t0 : n.tmod 2 = 0 := by rw [T2]; exact e2
    clear T2
    have c3 : decide (x.1 < 0) = false := decide_eq_false (fun k => f ⟨e2, k⟩)
    subst hy
    clear h z f e2
    go_enter Try.func18, Try.ntmps18
    go_wp2_with fail
    refine (W.out _).mono ?_
    rintro e w1 ⟨rfl, hb1⟩
    have hs1 : _ ≤ w1.heap.size := hb1.size
    try simp at hs1
    rw [HB.out]
    have o_y10 : Own (w1) (w.heap.size) 0 (.int .i64 y.1) := ownJ; have y10 := o_y10.1; have f_y10 := o_y10.2; have o_y11 : Own (w1) (w.heap.size) 1 (.int .i64 y.2) := ownJ; have y11 := o_y11.1; have f_y11 := o_y11.2
    have o_r10 : Own (w1) (w.heap.size + 1) 0 (.int .i64 0) := ownJ; have r10 := o_r10.1; have f_r10 := o_r10.2; have o_r11 : Own (w1) (w.heap.size + 1) 1 (.int .i64 0) := ownJ; have r11 := o_r11.1; have f_r11 := o_r11.2
    obtain ⟨v, hv'⟩ : ∃ v, v = w1.heap.size := ⟨_, rfl⟩
    have lrv : w.heap.size + 1 < v := by rw [hv']; exact World.block_lt_of_cell? _ _ r10
    have HV := Lib.hid hv'
    go_wp2_with fail
    rw [← hv']
    clear hv'
    go_loopw [38] (fun i wr => ∃ j : Nat, (j : Int) ≤ n - 1 ∧ i = .int .i64 ((j : Int)) ∧ Own wr v 0 (.int .i64 (powP y j).1) ∧ Own wr v 1 (.int .i64 (powP y j).2) ∧ Own wr w.heap.size 0 (.int .i64 y.1) ∧ Own wr w.heap.size 1 (.int .i64 y.2) ∧ Own wr (w.heap.size + 1) 0 (.int .i64 0) ∧ Own wr (w.heap.size + 1) 1 (.int .i64 0) ∧ Below w.heap.size w wr) (fun i _ => ((20 : Int) - intOf i).toNat)
    case atStart =>
      have hv' := HV.out
      subst hv'
      exact ⟨0, by omega, rfl, ⟨by simp [go_sem, powP], by simp [go_sem]⟩, ⟨by simp [go_sem, powP], by simp [go_sem]⟩, own_alloc o_y10, own_alloc o_y11, own_alloc o_r10, own_alloc o_r11, belB⟩
    case round =>
      obtain ⟨j, hj, rfl, v0, v1, y0, y1, r0, r1, hb⟩ := hrel
      have hsz := hb.size
      have lg : v < wr.heap.size := World.block_lt_of_cell? _ _ v0.1
      obtain ⟨cv0, fv0⟩ := id v0
      obtain ⟨cv1, fv1⟩ := id v1
      obtain ⟨cy0, fy0⟩ := id y0
      obtain ⟨cy1, fy1⟩ := id y1
      obtain ⟨cr0, fr0⟩ := id r0
      obtain ⟨cr1, fr1⟩ := id r1
      by_cases k : (j : Int) < n - 1
      · have K0 : decide ((j : Int) < n - 1) = true := decide_eq_true (by omega)
        have M := Lib.hid (fun w => MulI_any (powP y j) y (powP_ok hx j) hx w)
        have E3 := Lib.hid (show powP y (j + 1) = mulI (powP y j) y from rfl)
        generalize mulI (powP y j) y = t at *
        generalize powP y j = s at *
        go_wp2_with fail
        refine (M.out _).mono ?_
        rintro e w20 ⟨rfl, hb20⟩
        have hs20 : _ ≤ w20.heap.size := hb20.size
        try simp at hs20
        have zV0 : Own w20 v 0 (.int .i64 s.1) := own_kept hb20 v0
        have zV1 : Own w20 v 1 (.int .i64 s.2) := own_kept hb20 v1
        have zY0 : Own w20 w.heap.size 0 (.int .i64 y.1) := own_kept hb20 y0
        have zY1 : Own w20 w.heap.size 1 (.int .i64 y.2) := own_kept hb20 y1
        have zR0 : Own w20 (w.heap.size + 1) 0 (.int .i64 0) := own_kept hb20 r0
        have zR1 : Own w20 (w.heap.size + 1) 1 (.int .i64 0) := own_kept hb20 r1
        obtain ⟨dS0, eS0⟩ := id zV0
        obtain ⟨dS1, eS1⟩ := id zV1
        go_wp2
        go_roundw
        case rel => exact ⟨j + 1, by omega, by go_num, by rw [E3.out]; exact own_next (by decide) (own_put zV0), by rw [E3.out]; exact own_put (own_next (by decide) zV1), own_far (by dsimp only; omega) (own_far (by dsimp only; omega) zY0), own_far (by dsimp only; omega) (own_far (by dsimp only; omega) zY1), own_far (by dsimp only; omega) (own_far (by dsimp only; omega) zR0), own_far (by dsimp only; omega) (own_far (by dsimp only; omega) zR1), belB⟩
        case measure => first | (simp [intOf]; done) | (simp [intOf]; omega)
      · have K0 : decide ((j : Int) < n - 1) = false := decide_eq_false (by omega)
        have ej : (n - 1).toNat = j := by omega
        rw [ej] at E
        generalize powP y j = s at *
        go_wp2
        exact bodyPost_ret (v := .agg #[.int .i64 (s).1, .int .i64 (s).2]) (by simp [results, Try.results18, go_sem, cr0, cr1]) rfl ⟨by rw [E.out], belB⟩
  · have t0 : n.tmod 2 = 1 := by rw [T2]; omega
    clear T2
    subst hy
    clear h z f e2
    go_enter Try.func18, Try.ntmps18
    go_wp2_with fail
    refine (W.out _).mono ?_
    rintro e w1 ⟨rfl, hb1⟩
    have hs1 : _ ≤ w1.heap.size := hb1.size
    try simp at hs1
    rw [HB.out]
    have o_y10 : Own (w1) (w.heap.size) 0 (.int .i64 y.1) := ownJ; have y10 := o_y10.1; have f_y10 := o_y10.2; have o_y11 : Own (w1) (w.heap.size) 1 (.int .i64 y.2) := ownJ; have y11 := o_y11.1; have f_y11 := o_y11.2
    have o_r10 : Own (w1) (w.heap.size + 1) 0 (.int .i64 0) := ownJ; have r10 := o_r10.1; have f_r10 := o_r10.2; have o_r11 : Own (w1) (w.heap.size + 1) 1 (.int .i64 0) := ownJ; have r11 := o_r11.1; have f_r11 := o_r11.2
    obtain ⟨v, hv'⟩ : ∃ v, v = w1.heap.size := ⟨_, rfl⟩
    have lrv : w.heap.size + 1 < v := by rw [hv']; exact World.block_lt_of_cell? _ _ r10
    have HV := Lib.hid hv'
    go_wp2_with fail
    rw [← hv']
    clear hv'
    go_loopw [38] (fun i wr => ∃ j : Nat, (j : Int) ≤ n - 1 ∧ i = .int .i64 ((j : Int)) ∧ Own wr v 0 (.int .i64 (powP y j).1) ∧ Own wr v 1 (.int .i64 (powP y j).2) ∧ Own wr w.heap.size 0 (.int .i64 y.1) ∧ Own wr w.heap.size 1 (.int .i64 y.2) ∧ Own wr (w.heap.size + 1) 0 (.int .i64 0) ∧ Own wr (w.heap.size + 1) 1 (.int .i64 0) ∧ Below w.heap.size w wr) (fun i _ => ((20 : Int) - intOf i).toNat)
    case atStart =>
      have hv' := HV.out
      subst hv'
      exact ⟨0, by omega, rfl, ⟨by simp [go_sem, powP], by simp [go_sem]⟩, ⟨by simp [go_sem, powP], by simp [go_sem]⟩, own_alloc o_y10, own_alloc o_y11, own_alloc o_r10, own_alloc o_r11, belB⟩
    case round =>
      obtain ⟨j, hj, rfl, v0, v1, y0, y1, r0, r1, hb⟩ := hrel
      have hsz := hb.size
      have lg : v < wr.heap.size := World.block_lt_of_cell? _ _ v0.1
      obtain ⟨cv0, fv0⟩ := id v0
      obtain ⟨cv1, fv1⟩ := id v1
      obtain ⟨cy0, fy0⟩ := id y0
      obtain ⟨cy1, fy1⟩ := id y1
      obtain ⟨cr0, fr0⟩ := id r0
      obtain ⟨cr1, fr1⟩ := id r1
      by_cases k : (j : Int) < n - 1
      · have K0 : decide ((j : Int) < n - 1) = true := decide_eq_true (by omega)
        have M := Lib.hid (fun w => MulI_any (powP y j) y (powP_ok hx j) hx w)
        have E3 := Lib.hid (show powP y (j + 1) = mulI (powP y j) y from rfl)
        generalize mulI (powP y j) y = t at *
        generalize powP y j = s at *
        go_wp2_with fail
        refine (M.out _).mono ?_
        rintro e w20 ⟨rfl, hb20⟩
        have hs20 : _ ≤ w20.heap.size := hb20.size
        try simp at hs20
        have zV0 : Own w20 v 0 (.int .i64 s.1) := own_kept hb20 v0
        have zV1 : Own w20 v 1 (.int .i64 s.2) := own_kept hb20 v1
        have zY0 : Own w20 w.heap.size 0 (.int .i64 y.1) := own_kept hb20 y0
        have zY1 : Own w20 w.heap.size 1 (.int .i64 y.2) := own_kept hb20 y1
        have zR0 : Own w20 (w.heap.size + 1) 0 (.int .i64 0) := own_kept hb20 r0
        have zR1 : Own w20 (w.heap.size + 1) 1 (.int .i64 0) := own_kept hb20 r1
        obtain ⟨dS0, eS0⟩ := id zV0
        obtain ⟨dS1, eS1⟩ := id zV1
        go_wp2
        go_roundw
        case rel => exact ⟨j + 1, by omega, by go_num, by rw [E3.out]; exact own_next (by decide) (own_put zV0), by rw [E3.out]; exact own_put (own_next (by decide) zV1), own_far (by dsimp only; omega) (own_far (by dsimp only; omega) zY0), own_far (by dsimp only; omega) (own_far (by dsimp only; omega) zY1), own_far (by dsimp only; omega) (own_far (by dsimp only; omega) zR0), own_far (by dsimp only; omega) (own_far (by dsimp only; omega) zR1), belB⟩
        case measure => first | (simp [intOf]; done) | (simp [intOf]; omega)
      · have K0 : decide ((j : Int) < n - 1) = false := decide_eq_false (by omega)
        have ej : (n - 1).toNat = j := by omega
        rw [ej] at E
        generalize powP y j = s at *
        go_wp2
        exact bodyPost_ret (v := .agg #[.int .i64 (s).1, .int .i64 (s).2]) (by simp [results, Try.results18, go_sem, cr0, cr1]) rfl ⟨by rw [E.out], belB⟩
theorem PowerI_flip (x : Iv) (hx : Ok x) (n : Int) (h : Bnd x ∧ 0 ≤ n ∧ n ≤ 16) (z : n ≠ 0) (f : n % 2 = 0 ∧ x.1 < 0) (w : World) : Calls Try.prog 18 #[.agg #[.int .i64 x.1, .int .i64 x.2], .int .i64 n] w fun e w' =>
    e = .returned (.agg #[.int .i64 (powI x n).1, .int .i64 (powI x n).2]) ∧ Below w.heap.size w w' := by
  have W := Lib.hid (fun w => IsWhole_any x w)
  have HB := Lib.hid (show (!bnd x) = false by rw [bnd_yes h.1]; rfl)
  have n0 : 0 ≤ n := h.2.1
  have n1 : n ≤ 16 := h.2.2
  have c0 : decide (n < 0) = false := decide_eq_false (by omega)
  have c1 : decide (16 < n) = false := decide_eq_false (by omega)
  have T2 := tmod_two n0
  obtain ⟨ea, ba, nf⟩ := powI_abs h z f
  have E := Lib.hid ea
  have A := Lib.hid (fun w => AbsI_any x w)
  have R := Lib.hid (fun w => PowerI_self (absI x) (res_ok (absI_res _)) n ⟨ba, h.2⟩ z nf w)
  have z0 : (n == 0) = false := by simpa using z
  have t0 : n.tmod 2 = 0 := by rw [T2]; exact f.1
  clear T2
  have c3 : decide (x.1 < 0) = true := decide_eq_true f.2
  clear h z f ea ba nf
  generalize powI x n = Y at *
  generalize powI (absI x) n = u at *
  generalize absI x = a at *
  go_enter Try.func18, Try.ntmps18
  go_wp2_with fail
  refine (W.out _).mono ?_
  rintro e w1 ⟨rfl, hb1⟩
  have hs1 : _ ≤ w1.heap.size := hb1.size
  try simp at hs1
  rw [HB.out]
  have o_y10 : Own (w1) (w.heap.size) 0 (.int .i64 x.1) := ownJ; have y10 := o_y10.1; have f_y10 := o_y10.2; have o_y11 : Own (w1) (w.heap.size) 1 (.int .i64 x.2) := ownJ; have y11 := o_y11.1; have f_y11 := o_y11.2
  have o_r10 : Own (w1) (w.heap.size + 1) 0 (.int .i64 0) := ownJ; have r10 := o_r10.1; have f_r10 := o_r10.2; have o_r11 : Own (w1) (w.heap.size + 1) 1 (.int .i64 0) := ownJ; have r11 := o_r11.1; have f_r11 := o_r11.2
  go_wp2_with fail
  refine (A.out _).mono ?_
  rintro e w2 ⟨rfl, hb2⟩
  have hs2 : _ ≤ w2.heap.size := hb2.size
  try simp at hs2
  have o_r20 : Own (w2) (w.heap.size + 1) 0 (.int .i64 0) := ownJ; have r20 := o_r20.1; have f_r20 := o_r20.2; have o_r21 : Own (w2) (w.heap.size + 1) 1 (.int .i64 0) := ownJ; have r21 := o_r21.1; have f_r21 := o_r21.2
  go_wp2_with fail
  refine (R.out _).mono ?_
  rintro e w3 ⟨rfl, hb3⟩
  have hs3 : _ ≤ w3.heap.size := hb3.size
  try simp at hs3
  have o_r30 : Own (w3) (w.heap.size + 1) 0 (.int .i64 0) := ownJ; obtain ⟨r30, f_r30⟩ := o_r30; have o_r31 : Own (w3) (w.heap.size + 1) 1 (.int .i64 0) := ownJ; obtain ⟨r31, f_r31⟩ := o_r31
  go_wp2
  exact bodyPost_ret (v := .agg #[.int .i64 (u).1, .int .i64 (u).2]) (by simp [results, Try.results18, go_sem, r30, r31]) rfl ⟨by rw [E.out], belB⟩
theorem PowerI_any (x : Iv) (hx : Ok x) (n : Int) (hn : In64 n) (w : World) : Calls Try.prog 18 #[.agg #[.int .i64 x.1, .int .i64 x.2], .int .i64 n] w fun e w' =>
    e = .returned (.agg #[.int .i64 (powI x n).1, .int .i64 (powI x n).2]) ∧ Below w.heap.size w w' := by
  by_cases h : Bnd x ∧ 0 ≤ n ∧ n ≤ 16
  · by_cases z : n = 0
    · exact PowerI_zero x hx n h z w
    · by_cases f : n % 2 = 0 ∧ x.1 < 0
      · exact PowerI_flip x hx n h z f w
      · exact PowerI_self x hx n h z f w
  · exact PowerI_no x hx n hn h w
theorem sPowerI_no (x : Iv) (hx : Ok x) (n : Int) (hn : In64 n) (h : ¬ (Bnd x ∧ 0 ≤ n ∧ n ≤ 16)) (w : World) : Calls Try.prog 16 #[.agg #[.int .i64 x.1, .int .i64 x.2], .int .i64 n] w fun e w' =>
    e = .returned (.agg #[.int .i64 (powI x n).1, .int .i64 (powI x n).2]) ∧ Below w.heap.size w w' := by
  have C := Lib.hid (fun w => l04Ok_any x w)
  have E := Lib.hid (powI_no h)
  by_cases b : Bnd x
  · have HB := Lib.hid (bnd_yes b)
    have o : n < 0 ∨ 16 < n := by by_cases q : 0 ≤ n ∧ n ≤ 16; exact absurd ⟨b, q⟩ h; omega
    clear h b
    generalize powI x n = Y at *
    go_enter Try.func16, Try.ntmps16
    go_wp2_with fail
    refine (C.out _).mono ?_
    rintro e w1 ⟨rfl, hb1⟩
    have hs1 : _ ≤ w1.heap.size := hb1.size
    try simp at hs1
    rw [HB.out]
    have o_r10 : Own (w1) (w.heap.size + 1) 0 (.int .i64 0) := ownJ; have r10 := o_r10.1; have f_r10 := o_r10.2; have o_r11 : Own (w1) (w.heap.size + 1) 1 (.int .i64 0) := ownJ; have r11 := o_r11.1; have f_r11 := o_r11.2
    go_wp2_with fail
    refine (l00In_no n 0 16 o _).mono ?_
    rintro e w0 ⟨rfl, rfl⟩
    go_wp2_with fail
    refine (l04Whole_any _).mono ?_
    rintro e w2 ⟨rfl, hb2⟩
    have hs2 : _ ≤ w2.heap.size := hb2.size
    try simp at hs2
    have o_q20 : Own (w2) (w.heap.size + 1) 0 (.int .i64 0) := ownJ; obtain ⟨q20, f_q20⟩ := o_q20; have o_q21 : Own (w2) (w.heap.size + 1) 1 (.int .i64 0) := ownJ; obtain ⟨q21, f_q21⟩ := o_q21
    go_wp2
    exact bodyPost_ret (v := .agg #[.int .i64 (-1152921504606846976), .int .i64 1152921504606846976]) (by simp [results, Try.results16, go_sem, q20, q21]) rfl ⟨(by first | (rw [E.out]; done) | (rw [E.out]; rfl) | (simp [E.out]; done)), belB⟩
  · have HB := Lib.hid (bnd_no b)
    clear h b
    generalize powI x n = Y at *
    go_enter Try.func16, Try.ntmps16
    go_wp2_with fail
    refine (C.out _).mono ?_
    rintro e w1 ⟨rfl, hb1⟩
    have hs1 : _ ≤ w1.heap.size := hb1.size
    try simp at hs1
    rw [HB.out]
    have o_r10 : Own (w1) (w.heap.size + 1) 0 (.int .i64 0) := ownJ; have r10 := o_r10.1; have f_r10 := o_r10.2; have o_r11 : Own (w1) (w.heap.size + 1) 1 (.int .i64 0) := ownJ; have r11 := o_r11.1; have f_r11 := o_r11.2
    go_wp2_with fail
    refine (l04Whole_any _).mono ?_
    rintro e w2 ⟨rfl, hb2⟩
    have hs2 : _ ≤ w2.heap.size := hb2.size
    try simp at hs2
    have o_q20 : Own (w2) (w.heap.size + 1) 0 (.int .i64 0) := ownJ; obtain ⟨q20, f_q20⟩ := o_q20; have o_q21 : Own (w2) (w.heap.size + 1) 1 (.int .i64 0) := ownJ; obtain ⟨q21, f_q21⟩ := o_q21
    go_wp2
    exact bodyPost_ret (v := .agg #[.int .i64 (-1152921504606846976), .int .i64 1152921504606846976]) (by simp [results, Try.results16, go_sem, q20, q21]) rfl ⟨(by first | (rw [E.out]; done) | (rw [E.out]; rfl) | (simp [E.out]; done)), belB⟩
theorem sPowerI_zero (x : Iv) (hx : Ok x) (n : Int) (h : Bnd x ∧ 0 ≤ n ∧ n ≤ 16) (z : n = 0) (w : World) : Calls Try.prog 16 #[.agg #[.int .i64 x.1, .int .i64 x.2], .int .i64 n] w fun e w' =>
    e = .returned (.agg #[.int .i64 (powI x n).1, .int .i64 (powI x n).2]) ∧ Below w.heap.size w w' := by
  have C := Lib.hid (fun w => l04Ok_any x w)
  have HB := Lib.hid (bnd_yes h.1)
  have n0 : 0 ≤ n := h.2.1
  have n1 : n ≤ 16 := h.2.2
  have T2 := tmod_two n0
  have E := Lib.hid (powI_zero h z)
  have I := Lib.hid (fun w => l08One_any w)
  have z0 : (n == 0) = true := by simpa using z
  clear h z
  generalize powI x n = Y at *
  generalize intI 1 = i at *
  go_enter Try.func16, Try.ntmps16
  go_wp2_with fail
  refine (C.out _).mono ?_
  rintro e w1 ⟨rfl, hb1⟩
  have hs1 : _ ≤ w1.heap.size := hb1.size
  try simp at hs1
  rw [HB.out]
  have o_r10 : Own (w1) (w.heap.size + 1) 0 (.int .i64 0) := ownJ; have r10 := o_r10.1; have f_r10 := o_r10.2; have o_r11 : Own (w1) (w.heap.size + 1) 1 (.int .i64 0) := ownJ; have r11 := o_r11.1; have f_r11 := o_r11.2
  go_wp2_with fail
  refine (l00In_yes n 0 16 n0 n1 _).mono ?_
  rintro e w0 ⟨rfl, rfl⟩
  go_wp2_with fail
  refine (I.out _).mono ?_
  rintro e w2 ⟨rfl, hb2⟩
  have hs2 : _ ≤ w2.heap.size := hb2.size
  try simp at hs2
  have o_q20 : Own (w2) (w.heap.size + 1) 0 (.int .i64 0) := ownJ; obtain ⟨q20, f_q20⟩ := o_q20; have o_q21 : Own (w2) (w.heap.size + 1) 1 (.int .i64 0) := ownJ; obtain ⟨q21, f_q21⟩ := o_q21
  go_wp2
  exact bodyPost_ret (v := .agg #[.int .i64 (i).1, .int .i64 (i).2]) (by simp [results, Try.results16, go_sem, q20, q21]) rfl ⟨by rw [E.out], belB⟩
set_option maxHeartbeats 8000000 in
theorem sPowerI_self (x : Iv) (hx : Ok x) (n : Int) (h : Bnd x ∧ 0 ≤ n ∧ n ≤ 16) (z : n ≠ 0) (f : ¬ (n % 2 = 0 ∧ x.1 < 0)) (w : World) : Calls Try.prog 16 #[.agg #[.int .i64 x.1, .int .i64 x.2], .int .i64 n] w fun e w' =>
    e = .returned (.agg #[.int .i64 (powI x n).1, .int .i64 (powI x n).2]) ∧ Below w.heap.size w w' := by
  have C := Lib.hid (fun w => l04Ok_any x w)
  have HB := Lib.hid (bnd_yes h.1)
  have n0 : 0 ≤ n := h.2.1
  have n1 : n ≤ 16 := h.2.2
  have T2 := tmod_two n0
  have E_ := (powI_some h z).trans (by rw [powA_self f])
  have E := Lib.hid E_
  clear E_
  have z0 : (n == 0) = false := by simpa using z
  obtain ⟨y, hy⟩ : ∃ y, y = x := ⟨_, rfl⟩
  rw [← hy] at E hx
  have hnz : 1 ≤ n := by omega
  by_cases e2 : n % 2 = 0
  · have t0 : n.tmod 2 = 0 := by rw [T2]; exact e2
    clear T2
    have c3 : decide (x.1 < 0) = false := decide_eq_false (fun k => f ⟨e2, k⟩)
    subst hy
    clear h z f e2
    go_enter Try.func16, Try.ntmps16
    go_wp2_with fail
    refine (C.out _).mono ?_
    rintro e w1 ⟨rfl, hb1⟩
    have hs1 : _ ≤ w1.heap.size := hb1.size
    try simp at hs1
    rw [HB.out]
    have o_y10 : Own (w1) (w.heap.size) 0 (.int .i64 y.1) := ownJ; have y10 := o_y10.1; have f_y10 := o_y10.2; have o_y11 : Own (w1) (w.heap.size) 1 (.int .i64 y.2) := ownJ; have y11 := o_y11.1; have f_y11 := o_y11.2
    have o_r10 : Own (w1) (w.heap.size + 1) 0 (.int .i64 0) := ownJ; have r10 := o_r10.1; have f_r10 := o_r10.2; have o_r11 : Own (w1) (w.heap.size + 1) 1 (.int .i64 0) := ownJ; have r11 := o_r11.1; have f_r11 := o_r11.2
    go_wp2_with fail
    refine (l00In_yes n 0 16 n0 n1 _).mono ?_
    rintro e w0 ⟨rfl, rfl⟩
    obtain ⟨v, hv'⟩ : ∃ v, v = w1.heap.size := ⟨_, rfl⟩
    have lrv : w.heap.size + 1 < v := by rw [hv']; exact World.block_lt_of_cell? _ _ r10
    have HV := Lib.hid hv'
    go_wp2_with fail
    rw [← hv']
    clear hv'
    go_loopw [6] (fun i wr => ∃ j : Nat, (j : Int) ≤ n - 1 ∧ i = .int .i64 ((j : Int) + 1) ∧ Own wr v 0 (.int .i64 (powP y j).1) ∧ Own wr v 1 (.int .i64 (powP y j).2) ∧ Own wr w.heap.size 0 (.int .i64 y.1) ∧ Own wr w.heap.size 1 (.int .i64 y.2) ∧ Own wr (w.heap.size + 1) 0 (.int .i64 0) ∧ Own wr (w.heap.size + 1) 1 (.int .i64 0) ∧ Below w.heap.size w wr) (fun i _ => ((20 : Int) - intOf i).toNat)
    case atStart =>
      have hv' := HV.out
      subst hv'
      exact ⟨0, by omega, rfl, ⟨by simp [go_sem, powP], by simp [go_sem]⟩, ⟨by simp [go_sem, powP], by simp [go_sem]⟩, own_alloc o_y10, own_alloc o_y11, own_alloc o_r10, own_alloc o_r11, belB⟩
    case round =>
      obtain ⟨j, hj, rfl, v0, v1, y0, y1, r0, r1, hb⟩ := hrel
      have hsz := hb.size
      have lg : v < wr.heap.size := World.block_lt_of_cell? _ _ v0.1
      obtain ⟨cv0, fv0⟩ := id v0
      obtain ⟨cv1, fv1⟩ := id v1
      obtain ⟨cy0, fy0⟩ := id y0
      obtain ⟨cy1, fy1⟩ := id y1
      obtain ⟨cr0, fr0⟩ := id r0
      obtain ⟨cr1, fr1⟩ := id r1
      by_cases k : (j : Int) < n - 1
      · have K0 : decide ((j : Int) + 1 < n) = true := decide_eq_true (by omega)
        have M := Lib.hid (fun w => sMulI_any (powP y j) y w)
        have E3 := Lib.hid (show powP y (j + 1) = mulI (powP y j) y from rfl)
        generalize mulI (powP y j) y = t at *
        generalize powP y j = s at *
        go_wp2_with fail
        refine (M.out _).mono ?_
        rintro e w20 ⟨rfl, hb20⟩
        have hs20 : _ ≤ w20.heap.size := hb20.size
        try simp at hs20
        have zV0 : Own w20 v 0 (.int .i64 s.1) := own_kept hb20 v0
        have zV1 : Own w20 v 1 (.int .i64 s.2) := own_kept hb20 v1
        have zY0 : Own w20 w.heap.size 0 (.int .i64 y.1) := own_kept hb20 y0
        have zY1 : Own w20 w.heap.size 1 (.int .i64 y.2) := own_kept hb20 y1
        have zR0 : Own w20 (w.heap.size + 1) 0 (.int .i64 0) := own_kept hb20 r0
        have zR1 : Own w20 (w.heap.size + 1) 1 (.int .i64 0) := own_kept hb20 r1
        obtain ⟨dS0, eS0⟩ := id zV0
        obtain ⟨dS1, eS1⟩ := id zV1
        go_wp2
        go_roundw
        case rel => exact ⟨j + 1, by omega, by go_num, by rw [E3.out]; exact own_next (by decide) (own_put zV0), by rw [E3.out]; exact own_put (own_next (by decide) zV1), own_far (by dsimp only; omega) (own_far (by dsimp only; omega) zY0), own_far (by dsimp only; omega) (own_far (by dsimp only; omega) zY1), own_far (by dsimp only; omega) (own_far (by dsimp only; omega) zR0), own_far (by dsimp only; omega) (own_far (by dsimp only; omega) zR1), belB⟩
        case measure => first | (simp [intOf]; done) | (simp [intOf]; omega)
      · have K0 : decide ((j : Int) + 1 < n) = false := decide_eq_false (by omega)
        have ej : (n - 1).toNat = j := by omega
        rw [ej] at E
        generalize powP y j = s at *
        go_wp2
        exact bodyPost_ret (v := .agg #[.int .i64 (s).1, .int .i64 (s).2]) (by simp [results, Try.results16, go_sem, cr0, cr1]) rfl ⟨by rw [E.out], belB⟩
  · have t0 : n.tmod 2 = 1 := by rw [T2]; omega
    clear T2
    subst hy
    clear h z f e2
    go_enter Try.func16, Try.ntmps16
    go_wp2_with fail
    refine (C.out _).mono ?_
    rintro e w1 ⟨rfl, hb1⟩
    have hs1 : _ ≤ w1.heap.size := hb1.size
    try simp at hs1
    rw [HB.out]
    have o_y10 : Own (w1) (w.heap.size) 0 (.int .i64 y.1) := ownJ; have y10 := o_y10.1; have f_y10 := o_y10.2; have o_y11 : Own (w1) (w.heap.size) 1 (.int .i64 y.2) := ownJ; have y11 := o_y11.1; have f_y11 := o_y11.2
    have o_r10 : Own (w1) (w.heap.size + 1) 0 (.int .i64 0) := ownJ; have r10 := o_r10.1; have f_r10 := o_r10.2; have o_r11 : Own (w1) (w.heap.size + 1) 1 (.int .i64 0) := ownJ; have r11 := o_r11.1; have f_r11 := o_r11.2
    go_wp2_with fail
    refine (l00In_yes n 0 16 n0 n1 _).mono ?_
    rintro e w0 ⟨rfl, rfl⟩
    obtain ⟨v, hv'⟩ : ∃ v, v = w1.heap.size := ⟨_, rfl⟩
    have lrv : w.heap.size + 1 < v := by rw [hv']; exact World.block_lt_of_cell? _ _ r10
    have HV := Lib.hid hv'
    go_wp2_with fail
    rw [← hv']
    clear hv'
    go_loopw [6] (fun i wr => ∃ j : Nat, (j : Int) ≤ n - 1 ∧ i = .int .i64 ((j : Int) + 1) ∧ Own wr v 0 (.int .i64 (powP y j).1) ∧ Own wr v 1 (.int .i64 (powP y j).2) ∧ Own wr w.heap.size 0 (.int .i64 y.1) ∧ Own wr w.heap.size 1 (.int .i64 y.2) ∧ Own wr (w.heap.size + 1) 0 (.int .i64 0) ∧ Own wr (w.heap.size + 1) 1 (.int .i64 0) ∧ Below w.heap.size w wr) (fun i _ => ((20 : Int) - intOf i).toNat)
    case atStart =>
      have hv' := HV.out
      subst hv'
      exact ⟨0, by omega, rfl, ⟨by simp [go_sem, powP], by simp [go_sem]⟩, ⟨by simp [go_sem, powP], by simp [go_sem]⟩, own_alloc o_y10, own_alloc o_y11, own_alloc o_r10, own_alloc o_r11, belB⟩
    case round =>
      obtain ⟨j, hj, rfl, v0, v1, y0, y1, r0, r1, hb⟩ := hrel
      have hsz := hb.size
      have lg : v < wr.heap.size := World.block_lt_of_cell? _ _ v0.1
      obtain ⟨cv0, fv0⟩ := id v0
      obtain ⟨cv1, fv1⟩ := id v1
      obtain ⟨cy0, fy0⟩ := id y0
      obtain ⟨cy1, fy1⟩ := id y1
      obtain ⟨cr0, fr0⟩ := id r0
      obtain ⟨cr1, fr1⟩ := id r1
      by_cases k : (j : Int) < n - 1
      · have K0 : decide ((j : Int) + 1 < n) = true := decide_eq_true (by omega)
        have M := Lib.hid (fun w => sMulI_any (powP y j) y w)
        have E3 := Lib.hid (show powP y (j + 1) = mulI (powP y j) y from rfl)
        generalize mulI (powP y j) y = t at *
        generalize powP y j = s at *
        go_wp2_with fail
        refine (M.out _).mono ?_
        rintro e w20 ⟨rfl, hb20⟩
        have hs20 : _ ≤ w20.heap.size := hb20.size
        try simp at hs20
        have zV0 : Own w20 v 0 (.int .i64 s.1) := own_kept hb20 v0
        have zV1 : Own w20 v 1 (.int .i64 s.2) := own_kept hb20 v1
        have zY0 : Own w20 w.heap.size 0 (.int .i64 y.1) := own_kept hb20 y0
        have zY1 : Own w20 w.heap.size 1 (.int .i64 y.2) := own_kept hb20 y1
        have zR0 : Own w20 (w.heap.size + 1) 0 (.int .i64 0) := own_kept hb20 r0
        have zR1 : Own w20 (w.heap.size + 1) 1 (.int .i64 0) := own_kept hb20 r1
        obtain ⟨dS0, eS0⟩ := id zV0
        obtain ⟨dS1, eS1⟩ := id zV1
        go_wp2
        go_roundw
        case rel => exact ⟨j + 1, by omega, by go_num, by rw [E3.out]; exact own_next (by decide) (own_put zV0), by rw [E3.out]; exact own_put (own_next (by decide) zV1), own_far (by dsimp only; omega) (own_far (by dsimp only; omega) zY0), own_far (by dsimp only; omega) (own_far (by dsimp only; omega) zY1), own_far (by dsimp only; omega) (own_far (by dsimp only; omega) zR0), own_far (by dsimp only; omega) (own_far (by dsimp only; omega) zR1), belB⟩
        case measure => first | (simp [intOf]; done) | (simp [intOf]; omega)
      · have K0 : decide ((j : Int) + 1 < n) = false := decide_eq_false (by omega)
        have ej : (n - 1).toNat = j := by omega
        rw [ej] at E
        generalize powP y j = s at *
        go_wp2
        exact bodyPost_ret (v := .agg #[.int .i64 (s).1, .int .i64 (s).2]) (by simp [results, Try.results16, go_sem, cr0, cr1]) rfl ⟨by rw [E.out], belB⟩
set_option maxHeartbeats 8000000 in
theorem sPowerI_flip (x : Iv) (hx : Ok x) (n : Int) (h : Bnd x ∧ 0 ≤ n ∧ n ≤ 16) (z : n ≠ 0) (f : n % 2 = 0 ∧ x.1 < 0) (w : World) : Calls Try.prog 16 #[.agg #[.int .i64 x.1, .int .i64 x.2], .int .i64 n] w fun e w' =>
    e = .returned (.agg #[.int .i64 (powI x n).1, .int .i64 (powI x n).2]) ∧ Below w.heap.size w w' := by
  have C := Lib.hid (fun w => l04Ok_any x w)
  have HB := Lib.hid (bnd_yes h.1)
  have n0 : 0 ≤ n := h.2.1
  have n1 : n ≤ 16 := h.2.2
  have T2 := tmod_two n0
  have E_ := (powI_some h z).trans (by rw [powA_flip f])
  have E := Lib.hid E_
  clear E_
  have A := Lib.hid (fun w => sAbsI_any x w)
  have z0 : (n == 0) = false := by simpa using z
  have t0 : n.tmod 2 = 0 := by rw [T2]; exact f.1
  clear T2
  have c3 : decide (x.1 < 0) = true := decide_eq_true f.2
  have hnz : 1 ≤ n := by omega
  clear h z f
  generalize powI x n = Y at *
  generalize absI x = y at *
  go_enter Try.func16, Try.ntmps16
  go_wp2_with fail
  refine (C.out _).mono ?_
  rintro e w1 ⟨rfl, hb1⟩
  have hs1 : _ ≤ w1.heap.size := hb1.size
  try simp at hs1
  rw [HB.out]
  have o_x10 : Own (w1) (w.heap.size) 0 (.int .i64 x.1) := ownJ; have x10 := o_x10.1; have f_x10 := o_x10.2; have o_x11 : Own (w1) (w.heap.size) 1 (.int .i64 x.2) := ownJ; have x11 := o_x11.1; have f_x11 := o_x11.2
  go_wp2_with fail
  refine (l00In_yes n 0 16 n0 n1 _).mono ?_
  rintro e w0 ⟨rfl, rfl⟩
  go_wp2_with fail
  refine (A.out _).mono ?_
  rintro e w2 ⟨rfl, hb2⟩
  have hs2 : _ ≤ w2.heap.size := hb2.size
  try simp at hs2
  have o_r20 : Own (w2) (w.heap.size + 1) 0 (.int .i64 0) := ownJ; have r20 := o_r20.1; have f_r20 := o_r20.2; have o_r21 : Own (w2) (w.heap.size + 1) 1 (.int .i64 0) := ownJ; have r21 := o_r21.1; have f_r21 := o_r21.2
  have o_x20 : Own (w2) (w.heap.size) 0 (.int .i64 x.1) := ownJ; have x20 := o_x20.1; have f_x20 := o_x20.2; have o_x21 : Own (w2) (w.heap.size) 1 (.int .i64 x.2) := ownJ; have x21 := o_x21.1; have f_x21 := o_x21.2
  have zz2 : w.heap.size < w2.heap.size := World.block_lt_of_cell? _ _ x20; obtain ⟨zz2a, zz2b, zz2c, zz2d, zz2e, zz2f, zz2g, zz2h, zz2i⟩ := below_more zz2; have zn2 : ¬ w.heap.size = w2.heap.size := Nat.ne_of_lt zz2; have zm2 : ¬ w2.heap.size = w.heap.size := Nat.ne_of_gt zz2
  obtain ⟨u, hu⟩ : ∃ u, u = (w2.setCell ⟨w.heap.size, 0, none⟩ (.int .i64 y.1)).setCell ⟨w.heap.size, 1, none⟩ (.int .i64 y.2) := ⟨_, rfl⟩
  have o_y10 : Own u w.heap.size 0 (.int .i64 y.1) := by rw [hu]; exact own_next (by decide) (own_put o_x20)
  have o_y11 : Own u w.heap.size 1 (.int .i64 y.2) := by rw [hu]; exact own_put (own_next (by decide) o_x21)
  have o_r10 : Own u (w.heap.size + 1) 0 (.int .i64 0) := by rw [hu]; exact own_far (by simp) (own_far (by simp) o_r20)
  have o_r11 : Own u (w.heap.size + 1) 1 (.int .i64 0) := by rw [hu]; exact own_far (by simp) (own_far (by simp) o_r21)
  have bu : Below w.heap.size w u := by rw [hu]; exact belB
  obtain ⟨y10, f_y10⟩ := id o_y10
  obtain ⟨y11, f_y11⟩ := id o_y11
  obtain ⟨r10, f_r10⟩ := id o_r10
  have su := bu.size
  go_upto_region 7 with fail
  rw [← hu]
  clear hu hb1 hb2 hs1 hs2 o_x10 o_x11 x10 x11 f_x10 f_x11 o_r20 o_r21 r20 r21 f_r20 f_r21 o_x20 o_x21 x20 x21 f_x20 f_x21 zz2 zz2a zz2b zz2c zz2d zz2e zz2f zz2g zz2h zz2i zn2 zm2
  obtain ⟨v, hv'⟩ : ∃ v, v = u.heap.size := ⟨_, rfl⟩
  have lrv : w.heap.size + 1 < v := by rw [hv']; exact World.block_lt_of_cell? _ _ r10
  have HV := Lib.hid hv'
  go_wp2_with fail
  rw [← hv']
  clear hv'
  go_loopw [6] (fun i wr => ∃ j : Nat, (j : Int) ≤ n - 1 ∧ i = .int .i64 ((j : Int) + 1) ∧ Own wr v 0 (.int .i64 (powP y j).1) ∧ Own wr v 1 (.int .i64 (powP y j).2) ∧ Own wr w.heap.size 0 (.int .i64 y.1) ∧ Own wr w.heap.size 1 (.int .i64 y.2) ∧ Own wr (w.heap.size + 1) 0 (.int .i64 0) ∧ Own wr (w.heap.size + 1) 1 (.int .i64 0) ∧ Below w.heap.size w wr) (fun i _ => ((20 : Int) - intOf i).toNat)
  case atStart =>
    have hv' := HV.out
    subst hv'
    exact ⟨0, by omega, rfl, ⟨by simp [go_sem, powP], by simp [go_sem]⟩, ⟨by simp [go_sem, powP], by simp [go_sem]⟩, own_alloc o_y10, own_alloc o_y11, own_alloc o_r10, own_alloc o_r11, belB⟩
  case round =>
    obtain ⟨j, hj, rfl, v0, v1, y0, y1, r0, r1, hb⟩ := hrel
    have hsz := hb.size
    have lg : v < wr.heap.size := World.block_lt_of_cell? _ _ v0.1
    obtain ⟨cv0, fv0⟩ := id v0
    obtain ⟨cv1, fv1⟩ := id v1
    obtain ⟨cy0, fy0⟩ := id y0
    obtain ⟨cy1, fy1⟩ := id y1
    obtain ⟨cr0, fr0⟩ := id r0
    obtain ⟨cr1, fr1⟩ := id r1
    by_cases k : (j : Int) < n - 1
    · have K0 : decide ((j : Int) + 1 < n) = true := decide_eq_true (by omega)
      have M := Lib.hid (fun w => sMulI_any (powP y j) y w)
      have E3 := Lib.hid (show powP y (j + 1) = mulI (powP y j) y from rfl)
      generalize mulI (powP y j) y = t at *
      generalize powP y j = s at *
      go_wp2_with fail
      refine (M.out _).mono ?_
      rintro e w20 ⟨rfl, hb20⟩
      have hs20 : _ ≤ w20.heap.size := hb20.size
      try simp at hs20
      have zV0 : Own w20 v 0 (.int .i64 s.1) := own_kept hb20 v0
      have zV1 : Own w20 v 1 (.int .i64 s.2) := own_kept hb20 v1
      have zY0 : Own w20 w.heap.size 0 (.int .i64 y.1) := own_kept hb20 y0
      have zY1 : Own w20 w.heap.size 1 (.int .i64 y.2) := own_kept hb20 y1
      have zR0 : Own w20 (w.heap.size + 1) 0 (.int .i64 0) := own_kept hb20 r0
      have zR1 : Own w20 (w.heap.size + 1) 1 (.int .i64 0) := own_kept hb20 r1
      obtain ⟨dS0, eS0⟩ := id zV0
      obtain ⟨dS1, eS1⟩ := id zV1
      go_wp2
      go_roundw
      case rel => exact ⟨j + 1, by omega, by go_num, by rw [E3.out]; exact own_next (by decide) (own_put zV0), by rw [E3.out]; exact own_put (own_next (by decide) zV1), own_far (by dsimp only; omega) (own_far (by dsimp only; omega) zY0), own_far (by dsimp only; omega) (own_far (by dsimp only; omega) zY1), own_far (by dsimp only; omega) (own_far (by dsimp only; omega) zR0), own_far (by dsimp only; omega) (own_far (by dsimp only; omega) zR1), belB⟩
      case measure => first | (simp [intOf]; done) | (simp [intOf]; omega)
    · have K0 : decide ((j : Int) + 1 < n) = false := decide_eq_false (by omega)
      have ej : (n - 1).toNat = j := by omega
      rw [ej] at E
      generalize powP y j = s at *
      go_wp2
      exact bodyPost_ret (v := .agg #[.int .i64 (s).1, .int .i64 (s).2]) (by simp [results, Try.results16, go_sem, cr0, cr1]) rfl ⟨by rw [E.out], belB⟩
theorem sPowerI_any (x : Iv) (hx : Ok x) (n : Int) (hn : In64 n) (w : World) : Calls Try.prog 16 #[.agg #[.int .i64 x.1, .int .i64 x.2], .int .i64 n] w fun e w' =>
    e = .returned (.agg #[.int .i64 (powI x n).1, .int .i64 (powI x n).2]) ∧ Below w.heap.size w w' := by
  by_cases h : Bnd x ∧ 0 ≤ n ∧ n ≤ 16
  · by_cases z : n = 0
    · exact sPowerI_zero x hx n h z w
    · by_cases f : n % 2 = 0 ∧ x.1 < 0
      · exact sPowerI_flip x hx n h z f w
      · exact sPowerI_self x hx n h z f w
  · exact sPowerI_no x hx n hn h w
theorem law_PowerI (x : Iv) (hx : Ok x) (n : Int) (hn : In64 n) (w : World) : Calls Try.prog 4 #[.agg #[.int .i64 x.1, .int .i64 x.2], .int .i64 n] w fun e w' =>
    e = .returned (.bool true) ∧ Below w.heap.size w w' := by
  have SP := Lib.hid (fun w => sPowerI_any x hx n hn w)
  have IM := Lib.hid (fun w => PowerI_any x hx n hn w)
  generalize powI x n = r at *
  go_enter Try.func4, Try.ntmps4
  go_wp2_with fail
  refine (toInterval_any x _).mono ?_
  rintro e w1 ⟨rfl, hb1⟩
  have hs1 : _ ≤ w1.heap.size := hb1.size
  try simp at hs1
  go_wp2_with fail
  refine (SP.out _).mono ?_
  rintro e w2 ⟨rfl, hb2⟩
  have hs2 : _ ≤ w2.heap.size := hb2.size
  try simp at hs2
  have o_p20 : Own (w2) (w.heap.size) 0 (.int .i64 x.1) := ownJ; obtain ⟨p20, f_p20⟩ := o_p20; have o_p21 : Own (w2) (w.heap.size) 1 (.int .i64 x.2) := ownJ; obtain ⟨p21, f_p21⟩ := o_p21
  have lp2 : w.heap.size < w2.heap.size := World.block_lt_of_cell? _ _ p20
  have np2 : ¬ w.heap.size = w2.heap.size := Nat.ne_of_lt lp2
  have mp2 : ¬ w2.heap.size = w.heap.size := Nat.ne_of_gt lp2
  go_wp2_with fail
  refine (toInterval_any x _).mono ?_
  rintro e w3 ⟨rfl, hb3⟩
  have hs3 : _ ≤ w3.heap.size := hb3.size
  try simp at hs3
  go_wp2_with fail
  refine (IM.out _).mono ?_
  rintro e w4 ⟨rfl, hb4⟩
  have hs4 : _ ≤ w4.heap.size := hb4.size
  try simp at hs4
  have o_g40 : Own (w4) (w2.heap.size) 0 (.int .i64 r.1) := ownJ; obtain ⟨g40, f_g40⟩ := o_g40; have o_g41 : Own (w4) (w2.heap.size) 1 (.int .i64 r.2) := ownJ; obtain ⟨g41, f_g41⟩ := o_g41
  have lg4 : w2.heap.size < w4.heap.size := World.block_lt_of_cell? _ _ g40
  have ng4 : ¬ w2.heap.size = w4.heap.size := Nat.ne_of_lt lg4
  have mg4 : ¬ w4.heap.size = w2.heap.size := Nat.ne_of_gt lg4
  go_wp2_with fail
  refine (eqInterval_same _ _ _).mono ?_
  rintro e w5 ⟨rfl, hb5⟩
  have hs5 : _ ≤ w5.heap.size := hb5.size
  try simp at hs5
  go_wp2
  go_ret
  exact ⟨rfl, belB⟩
end Go.Proofs.Ytnnanbaldcjfiaa
