/- A contract of the root of 1 minus a square in the model. Conditions: numbers are int64. -/
import Derived.Test.YtmikjgbojknlnaaDoorNumX
import Derived.Test.YtmikjgbojknlnaaDoorWideZp
import Derived.Test.YtmikjgbojknlnaaDoorFixF
import Derived.Test.YtmikjgbojknlnaaDoorIvA
import Derived.Test.YtmikjgbojknlnaaDoorIvM
import Derived.Test.YtmikjgbojknlnaaDoorIvN
import Derived.Test.YtmikjgbojknlnaaDoorIvLd
import Derived.Deep.RegionHeld3
import Derived.Outline
namespace Go.Proofs.YtmikjgbojknlnaaDoor
open Go.ChangeShapes Go.WideShapes Go.ChangeAt Go.RowKit
set_option linter.unusedVariables false
set_option maxRecDepth 100000
set_option linter.unusedSimpArgs false
set_option maxHeartbeats 1000000
theorem sCircleAt_any (n : Int) (w : World) : Calls Tryd.prog 4 #[.int .i64 n] w fun e w' =>
    e = .returned (.agg #[.int .i64 (cirC n).1, .int .i64 (cirC n).2]) ∧ Below w.heap.size w w' := by
  by_cases h : InR n
  · have E := Lib.hid (show cirC n = (cirD n, cirU n) from if_pos h)
    obtain ⟨b0, b1, b2, b3⟩ := cirD_in h
    have S := Lib.hid (sf_cir h)
    have hu : cirU n = if cirD n * cirD n = (4294967296 - n) * (4294967296 + n) then cirD n else cirD n + 1 := rfl
    unfold InR at h
    have LN := Lib.hid (fun w => l00In_yes n (-4294967296) 4294967296 h.1 h.2 w)
    have C := Lib.hid (fun w => sSqrtFloor_any (4294967296 - n) (4294967296 + n) (by unfold In64; omega) (by unfold In64; omega) w)
    have M := Lib.hid (fun (x y : Int) (hx : In64 x) (hy : In64 y) w => sWideMul_any x y hx hy w)
    have HA := Lib.hid (show In64 (4294967296 - n) by unfold In64; omega)
    have HB := Lib.hid (show In64 (4294967296 + n) by unfold In64; omega)
    have R := Lib.hid (show In64 (cirD n) by unfold In64; omega)
    obtain ⟨a, ha⟩ : ∃ a, a = 4294967296 - n := ⟨_, rfl⟩
    obtain ⟨b, hb⟩ : ∃ b, b = 4294967296 + n := ⟨_, rfl⟩
    rw [← ha, ← hb] at S C hu
    rw [← ha] at HA
    rw [← hb] at HB
    have W1 : IntKind.i64.wrap (4294967296 - n) = a := by rw [IntKind.wrap_i64]; omega
    have W2 : IntKind.i64.wrap (4294967296 + n) = b := by rw [IntKind.wrap_i64]; omega
    clear ha hb
    have W3 : IntKind.i64.wrap (cirD n + 1) = cirD n + 1 := by rw [IntKind.wrap_i64]; omega
    clear h b2 b3
    generalize cirC n = Y at *
    generalize cirD n = r at *
    generalize cirU n = u at *
    by_cases e : r * r = a * b
    · have U := Lib.hid (show u = r from hu.trans (if_pos e))
      clear hu
      have e0 : (hiW (r * r) == hiW (a * b)) = true := by simp [e]
      have e1 : (loW (r * r) == loW (a * b)) = true := by simp [e]
      clear e
      go_enter Tryd.func4, Tryd.ntmps4
      go_wp2_with fail
      refine (LN.out _).mono ?_
      rintro e w0 ⟨rfl, hw⟩
      subst w0
      go_wp2_with fail
      refine (C.out _).mono ?_
      rintro e w1 ⟨rfl, hb1⟩
      have hs1 : _ ≤ w1.heap.size := hb1.size
      try simp at hs1
      rw [S.out.1, S.out.2]
      have o_q10 : Own (w1) (w.heap.size) 0 (.int .i64 0) := ownJ; have q10 := o_q10.1; have f_q10 := o_q10.2; have o_q11 : Own (w1) (w.heap.size) 1 (.int .i64 0) := ownJ; have q11 := o_q11.1; have f_q11 := o_q11.2
      have zz1 : w.heap.size < w1.heap.size := World.block_lt_of_cell? _ _ q10; obtain ⟨zz1a, zz1b, zz1c, zz1d, zz1e, zz1f, zz1g, zz1h, zz1i⟩ := below_more zz1; have zn1 : ¬ w.heap.size = w1.heap.size := Nat.ne_of_lt zz1; have zm1 : ¬ w1.heap.size = w.heap.size := Nat.ne_of_gt zz1
      go_wp2_with fail
      refine ((M.out _ _ R.out R.out _)).mono ?_
      rintro e w2 ⟨rfl, hb2⟩
      have hs2 : _ ≤ w2.heap.size := hb2.size
      try simp at hs2
      have o_q20 : Own (w2) (w.heap.size) 0 (.int .i64 0) := ownJ; have q20 := o_q20.1; have f_q20 := o_q20.2; have o_q21 : Own (w2) (w.heap.size) 1 (.int .i64 0) := ownJ; have q21 := o_q21.1; have f_q21 := o_q21.2
      have o_o20 : Own (w2) (w1.heap.size) 0 (.int .i64 r) := ownJ; have o20 := o_o20.1; have f_o20 := o_o20.2; have o_o21 : Own (w2) (w1.heap.size) 1 (.int .i64 r) := ownJ; have o21 := o_o21.1; have f_o21 := o_o21.2
      go_wp2_with fail
      refine ((M.out _ _ HA.out HB.out _)).mono ?_
      rintro e w3 ⟨rfl, hb3⟩
      have hs3 : _ ≤ w3.heap.size := hb3.size
      try simp at hs3
      have o_q30 : Own (w3) (w.heap.size) 0 (.int .i64 0) := ownJ; have q30 := o_q30.1; have f_q30 := o_q30.2; have o_q31 : Own (w3) (w.heap.size) 1 (.int .i64 0) := ownJ; have q31 := o_q31.1; have f_q31 := o_q31.2
      have o_o30 : Own (w3) (w1.heap.size) 0 (.int .i64 r) := ownJ; have o30 := o_o30.1; have f_o30 := o_o30.2; have o_o31 : Own (w3) (w1.heap.size) 1 (.int .i64 r) := ownJ; have o31 := o_o31.1; have f_o31 := o_o31.2
      have zz3 : w.heap.size < w3.heap.size := World.block_lt_of_cell? _ _ q30; obtain ⟨zz3a, zz3b, zz3c, zz3d, zz3e, zz3f, zz3g, zz3h, zz3i⟩ := below_more zz3; have zn3 : ¬ w.heap.size = w3.heap.size := Nat.ne_of_lt zz3; have zm3 : ¬ w3.heap.size = w.heap.size := Nat.ne_of_gt zz3
      have zz4 : w1.heap.size < w3.heap.size := World.block_lt_of_cell? _ _ o30; obtain ⟨zz4a, zz4b, zz4c, zz4d, zz4e, zz4f, zz4g, zz4h, zz4i⟩ := below_more zz4; have zn4 : ¬ w1.heap.size = w3.heap.size := Nat.ne_of_lt zz4; have zm4 : ¬ w3.heap.size = w1.heap.size := Nat.ne_of_gt zz4
      go_wp2
      exact bodyPost_ret (v := .agg #[.int .i64 r, .int .i64 r]) (by simp [results, Tryd.results4, go_sem, q30, q31, zz1, zn1, zm1, zz3, zn3, zm3, zz4, zn4, zm4, o30, o31]) rfl ⟨(by first | (rw [E.out, U.out]; done) | (rw [E.out, U.out]; rfl) | (simp [E.out, U.out]; done)), belB⟩
    · have U := Lib.hid (show u = r + 1 from hu.trans (if_neg e))
      clear hu
      by_cases f : hiW (r * r) = hiW (a * b)
      · have e0 : (hiW (r * r) == hiW (a * b)) = true := by simpa using f
        have e1 : (loW (r * r) == loW (a * b)) = false := by rw [Bool.eq_false_iff]; intro g; exact e (same_hl f (by simpa using g))
        clear e f
        go_enter Tryd.func4, Tryd.ntmps4
        go_wp2_with fail
        refine (LN.out _).mono ?_
        rintro e w0 ⟨rfl, hw⟩
        subst w0
        go_wp2_with fail
        refine (C.out _).mono ?_
        rintro e w1 ⟨rfl, hb1⟩
        have hs1 : _ ≤ w1.heap.size := hb1.size
        try simp at hs1
        rw [S.out.1, S.out.2]
        have o_q10 : Own (w1) (w.heap.size) 0 (.int .i64 0) := ownJ; have q10 := o_q10.1; have f_q10 := o_q10.2; have o_q11 : Own (w1) (w.heap.size) 1 (.int .i64 0) := ownJ; have q11 := o_q11.1; have f_q11 := o_q11.2
        have zz1 : w.heap.size < w1.heap.size := World.block_lt_of_cell? _ _ q10; obtain ⟨zz1a, zz1b, zz1c, zz1d, zz1e, zz1f, zz1g, zz1h, zz1i⟩ := below_more zz1; have zn1 : ¬ w.heap.size = w1.heap.size := Nat.ne_of_lt zz1; have zm1 : ¬ w1.heap.size = w.heap.size := Nat.ne_of_gt zz1
        go_wp2_with fail
        refine ((M.out _ _ R.out R.out _)).mono ?_
        rintro e w2 ⟨rfl, hb2⟩
        have hs2 : _ ≤ w2.heap.size := hb2.size
        try simp at hs2
        have o_q20 : Own (w2) (w.heap.size) 0 (.int .i64 0) := ownJ; have q20 := o_q20.1; have f_q20 := o_q20.2; have o_q21 : Own (w2) (w.heap.size) 1 (.int .i64 0) := ownJ; have q21 := o_q21.1; have f_q21 := o_q21.2
        have o_o20 : Own (w2) (w1.heap.size) 0 (.int .i64 r) := ownJ; have o20 := o_o20.1; have f_o20 := o_o20.2; have o_o21 : Own (w2) (w1.heap.size) 1 (.int .i64 r) := ownJ; have o21 := o_o21.1; have f_o21 := o_o21.2
        go_wp2_with fail
        refine ((M.out _ _ HA.out HB.out _)).mono ?_
        rintro e w3 ⟨rfl, hb3⟩
        have hs3 : _ ≤ w3.heap.size := hb3.size
        try simp at hs3
        have o_q30 : Own (w3) (w.heap.size) 0 (.int .i64 0) := ownJ; have q30 := o_q30.1; have f_q30 := o_q30.2; have o_q31 : Own (w3) (w.heap.size) 1 (.int .i64 0) := ownJ; have q31 := o_q31.1; have f_q31 := o_q31.2
        have o_o30 : Own (w3) (w1.heap.size) 0 (.int .i64 r) := ownJ; have o30 := o_o30.1; have f_o30 := o_o30.2; have o_o31 : Own (w3) (w1.heap.size) 1 (.int .i64 r) := ownJ; have o31 := o_o31.1; have f_o31 := o_o31.2
        have zz3 : w.heap.size < w3.heap.size := World.block_lt_of_cell? _ _ q30; obtain ⟨zz3a, zz3b, zz3c, zz3d, zz3e, zz3f, zz3g, zz3h, zz3i⟩ := below_more zz3; have zn3 : ¬ w.heap.size = w3.heap.size := Nat.ne_of_lt zz3; have zm3 : ¬ w3.heap.size = w.heap.size := Nat.ne_of_gt zz3
        have zz4 : w1.heap.size < w3.heap.size := World.block_lt_of_cell? _ _ o30; obtain ⟨zz4a, zz4b, zz4c, zz4d, zz4e, zz4f, zz4g, zz4h, zz4i⟩ := below_more zz4; have zn4 : ¬ w1.heap.size = w3.heap.size := Nat.ne_of_lt zz4; have zm4 : ¬ w3.heap.size = w1.heap.size := Nat.ne_of_gt zz4
        go_wp2
        exact bodyPost_ret (v := .agg #[.int .i64 r, .int .i64 (r + 1)]) (by simp [results, Tryd.results4, go_sem, q30, q31, zz1, zn1, zm1, zz3, zn3, zm3, zz4, zn4, zm4, o30, o31]) rfl ⟨(by first | (rw [E.out, U.out]; done) | (rw [E.out, U.out]; rfl) | (simp [E.out, U.out]; done)), belB⟩
      · have e0 : (hiW (r * r) == hiW (a * b)) = false := by simpa using f
        clear e f
        go_enter Tryd.func4, Tryd.ntmps4
        go_wp2_with fail
        refine (LN.out _).mono ?_
        rintro e w0 ⟨rfl, hw⟩
        subst w0
        go_wp2_with fail
        refine (C.out _).mono ?_
        rintro e w1 ⟨rfl, hb1⟩
        have hs1 : _ ≤ w1.heap.size := hb1.size
        try simp at hs1
        rw [S.out.1, S.out.2]
        have o_q10 : Own (w1) (w.heap.size) 0 (.int .i64 0) := ownJ; have q10 := o_q10.1; have f_q10 := o_q10.2; have o_q11 : Own (w1) (w.heap.size) 1 (.int .i64 0) := ownJ; have q11 := o_q11.1; have f_q11 := o_q11.2
        have zz1 : w.heap.size < w1.heap.size := World.block_lt_of_cell? _ _ q10; obtain ⟨zz1a, zz1b, zz1c, zz1d, zz1e, zz1f, zz1g, zz1h, zz1i⟩ := below_more zz1; have zn1 : ¬ w.heap.size = w1.heap.size := Nat.ne_of_lt zz1; have zm1 : ¬ w1.heap.size = w.heap.size := Nat.ne_of_gt zz1
        go_wp2_with fail
        refine ((M.out _ _ R.out R.out _)).mono ?_
        rintro e w2 ⟨rfl, hb2⟩
        have hs2 : _ ≤ w2.heap.size := hb2.size
        try simp at hs2
        have o_q20 : Own (w2) (w.heap.size) 0 (.int .i64 0) := ownJ; have q20 := o_q20.1; have f_q20 := o_q20.2; have o_q21 : Own (w2) (w.heap.size) 1 (.int .i64 0) := ownJ; have q21 := o_q21.1; have f_q21 := o_q21.2
        have o_o20 : Own (w2) (w1.heap.size) 0 (.int .i64 r) := ownJ; have o20 := o_o20.1; have f_o20 := o_o20.2; have o_o21 : Own (w2) (w1.heap.size) 1 (.int .i64 r) := ownJ; have o21 := o_o21.1; have f_o21 := o_o21.2
        go_wp2_with fail
        refine ((M.out _ _ HA.out HB.out _)).mono ?_
        rintro e w3 ⟨rfl, hb3⟩
        have hs3 : _ ≤ w3.heap.size := hb3.size
        try simp at hs3
        have o_q30 : Own (w3) (w.heap.size) 0 (.int .i64 0) := ownJ; have q30 := o_q30.1; have f_q30 := o_q30.2; have o_q31 : Own (w3) (w.heap.size) 1 (.int .i64 0) := ownJ; have q31 := o_q31.1; have f_q31 := o_q31.2
        have o_o30 : Own (w3) (w1.heap.size) 0 (.int .i64 r) := ownJ; have o30 := o_o30.1; have f_o30 := o_o30.2; have o_o31 : Own (w3) (w1.heap.size) 1 (.int .i64 r) := ownJ; have o31 := o_o31.1; have f_o31 := o_o31.2
        have zz3 : w.heap.size < w3.heap.size := World.block_lt_of_cell? _ _ q30; obtain ⟨zz3a, zz3b, zz3c, zz3d, zz3e, zz3f, zz3g, zz3h, zz3i⟩ := below_more zz3; have zn3 : ¬ w.heap.size = w3.heap.size := Nat.ne_of_lt zz3; have zm3 : ¬ w3.heap.size = w.heap.size := Nat.ne_of_gt zz3
        have zz4 : w1.heap.size < w3.heap.size := World.block_lt_of_cell? _ _ o30; obtain ⟨zz4a, zz4b, zz4c, zz4d, zz4e, zz4f, zz4g, zz4h, zz4i⟩ := below_more zz4; have zn4 : ¬ w1.heap.size = w3.heap.size := Nat.ne_of_lt zz4; have zm4 : ¬ w3.heap.size = w1.heap.size := Nat.ne_of_gt zz4
        go_wp2
        exact bodyPost_ret (v := .agg #[.int .i64 r, .int .i64 (r + 1)]) (by simp [results, Tryd.results4, go_sem, q30, q31, zz1, zn1, zm1, zz3, zn3, zm3, zz4, zn4, zm4, o30, o31]) rfl ⟨(by first | (rw [E.out, U.out]; done) | (rw [E.out, U.out]; rfl) | (simp [E.out, U.out]; done)), belB⟩
  · have LN := Lib.hid (fun w => l00In_no n (-4294967296) 4294967296 (by unfold InR at h; omega) w)
    have E := Lib.hid (show cirC n = whl from if_neg h)
    clear h
    go_enter Tryd.func4, Tryd.ntmps4
    go_wp2_with fail
    refine (LN.out _).mono ?_
    rintro e w0 ⟨rfl, hw⟩
    subst w0
    go_wp2_with fail
    refine (sWhole_any _).mono ?_
    rintro e w1 ⟨rfl, hb1⟩
    have hs1 : _ ≤ w1.heap.size := hb1.size
    try simp at hs1
    have o_q10 : Own (w1) (w.heap.size) 0 (.int .i64 0) := ownJ; obtain ⟨q10, f_q10⟩ := o_q10; have o_q11 : Own (w1) (w.heap.size) 1 (.int .i64 0) := ownJ; obtain ⟨q11, f_q11⟩ := o_q11
    go_wp2
    exact bodyPost_ret (v := .agg #[.int .i64 (-1152921504606846976), .int .i64 1152921504606846976]) (by simp [results, Tryd.results4, go_sem, q10, q11]) rfl ⟨(by first | (rw [E.out]; done) | (rw [E.out]; rfl) | (simp [E.out]; done)), belB⟩
end Go.Proofs.YtmikjgbojknlnaaDoor
