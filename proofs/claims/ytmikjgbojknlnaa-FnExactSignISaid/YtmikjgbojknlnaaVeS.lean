/- The sign of an interval, program and model, and its law. Conditions: numbers are int64. -/
import Derived.Test.YtmikjgbojknlnaaIvA
import Derived.Test.YtmikjgbojknlnaaIvK
import Derived.Test.YtmikjgbojknlnaaLat
import Derived.Outline
namespace Go.Proofs.Ytmikjgbojknlnaa
open Go.ChangeShapes Go.WideShapes Go.ChangeAt Go.RowKit
set_option linter.unusedVariables false
set_option maxRecDepth 100000
set_option linter.unusedSimpArgs false
set_option maxHeartbeats 1000000
/-- The sign of all numbers of an interval. -/
def sgnI (x : Iv) : Int := if Bnd x then (if 0 < x.1 then 1 else if x.2 < 0 then -1 else 0) else 0
theorem SignI_any (x : Iv) (w : World) : Calls Try.prog 46 #[.agg #[.int .i64 x.1, .int .i64 x.2]] w fun e w' =>
    e = .returned (.int .i64 (sgnI x)) ∧ Below w.heap.size w w' := by
  by_cases b : Bnd x
  · have HB := Lib.hid (bnd_yes b)
    by_cases p : 0 < x.1
    · have E := Lib.hid (show sgnI x = 1 from by unfold sgnI; rw [if_pos b, if_pos p])
      clear b
      go_enter Try.func46, Try.ntmps46
      go_wp2_with fail
      refine (IsWhole_any x _).mono ?_
      rintro e w1 ⟨rfl, hb1⟩
      have hs1 : _ ≤ w1.heap.size := hb1.size
      try simp at hs1
      rw [HB.out]
      have o_a10 : Own (w1) (w.heap.size) 0 (.int .i64 x.1) := ownS; have a10 := o_a10.1; have f_a10 := o_a10.2; have o_a11 : Own (w1) (w.heap.size) 1 (.int .i64 x.2) := ownS; have a11 := o_a11.1; have f_a11 := o_a11.2
      go_wp2
      go_ret
      exact ⟨by rw [E.out]; rfl, belS⟩
    · by_cases n : x.2 < 0
      · have E := Lib.hid (show sgnI x = -1 from by unfold sgnI; rw [if_pos b, if_neg p, if_pos n])
        clear b
        go_enter Try.func46, Try.ntmps46
        go_wp2_with fail
        refine (IsWhole_any x _).mono ?_
        rintro e w1 ⟨rfl, hb1⟩
        have hs1 : _ ≤ w1.heap.size := hb1.size
        try simp at hs1
        rw [HB.out]
        have o_a10 : Own (w1) (w.heap.size) 0 (.int .i64 x.1) := ownS; have a10 := o_a10.1; have f_a10 := o_a10.2; have o_a11 : Own (w1) (w.heap.size) 1 (.int .i64 x.2) := ownS; have a11 := o_a11.1; have f_a11 := o_a11.2
        go_wp2
        go_ret
        exact ⟨by rw [E.out]; rfl, belS⟩
      · have E := Lib.hid (show sgnI x = 0 from by unfold sgnI; rw [if_pos b, if_neg p, if_neg n])
        clear b
        go_enter Try.func46, Try.ntmps46
        go_wp2_with fail
        refine (IsWhole_any x _).mono ?_
        rintro e w1 ⟨rfl, hb1⟩
        have hs1 : _ ≤ w1.heap.size := hb1.size
        try simp at hs1
        rw [HB.out]
        have o_a10 : Own (w1) (w.heap.size) 0 (.int .i64 x.1) := ownS; have a10 := o_a10.1; have f_a10 := o_a10.2; have o_a11 : Own (w1) (w.heap.size) 1 (.int .i64 x.2) := ownS; have a11 := o_a11.1; have f_a11 := o_a11.2
        go_wp2
        go_ret
        exact ⟨by rw [E.out]; rfl, belS⟩
  · have HB := Lib.hid (bnd_no b)
    have E := Lib.hid (show sgnI x = 0 from by unfold sgnI; rw [if_neg b])
    clear b
    go_enter Try.func46, Try.ntmps46
    go_wp2_with fail
    refine (IsWhole_any x _).mono ?_
    rintro e w1 ⟨rfl, hb1⟩
    have hs1 : _ ≤ w1.heap.size := hb1.size
    try simp at hs1
    rw [HB.out]
    have o_a10 : Own (w1) (w.heap.size) 0 (.int .i64 x.1) := ownS; have a10 := o_a10.1; have f_a10 := o_a10.2; have o_a11 : Own (w1) (w.heap.size) 1 (.int .i64 x.2) := ownS; have a11 := o_a11.1; have f_a11 := o_a11.2
    go_wp2
    go_ret
    exact ⟨by rw [E.out]; rfl, belS⟩
theorem l09Sign_any (x : Iv) (w : World) : Calls Try.prog 107 #[.agg #[.int .i64 x.1, .int .i64 x.2]] w fun e w' =>
    e = .returned (.int .i64 (sgnI x)) ∧ Below w.heap.size w w' := by
  by_cases b : Bnd x
  · have HB := Lib.hid (bnd_yes b)
    by_cases p : 0 < x.1
    · have E := Lib.hid (show sgnI x = 1 from by unfold sgnI; rw [if_pos b, if_pos p])
      clear b
      go_enter Try.func107, Try.ntmps107
      go_wp2_with fail
      refine (l04Ok_any x _).mono ?_
      rintro e w1 ⟨rfl, hb1⟩
      have hs1 : _ ≤ w1.heap.size := hb1.size
      try simp at hs1
      rw [HB.out]
      have o_a10 : Own (w1) (w.heap.size) 0 (.int .i64 x.1) := ownS; have a10 := o_a10.1; have f_a10 := o_a10.2; have o_a11 : Own (w1) (w.heap.size) 1 (.int .i64 x.2) := ownS; have a11 := o_a11.1; have f_a11 := o_a11.2
      go_wp2
      go_ret
      exact ⟨by rw [E.out]; rfl, belS⟩
    · by_cases n : x.2 < 0
      · have E := Lib.hid (show sgnI x = -1 from by unfold sgnI; rw [if_pos b, if_neg p, if_pos n])
        clear b
        go_enter Try.func107, Try.ntmps107
        go_wp2_with fail
        refine (l04Ok_any x _).mono ?_
        rintro e w1 ⟨rfl, hb1⟩
        have hs1 : _ ≤ w1.heap.size := hb1.size
        try simp at hs1
        rw [HB.out]
        have o_a10 : Own (w1) (w.heap.size) 0 (.int .i64 x.1) := ownS; have a10 := o_a10.1; have f_a10 := o_a10.2; have o_a11 : Own (w1) (w.heap.size) 1 (.int .i64 x.2) := ownS; have a11 := o_a11.1; have f_a11 := o_a11.2
        go_wp2
        go_ret
        exact ⟨by rw [E.out]; rfl, belS⟩
      · have E := Lib.hid (show sgnI x = 0 from by unfold sgnI; rw [if_pos b, if_neg p, if_neg n])
        clear b
        go_enter Try.func107, Try.ntmps107
        go_wp2_with fail
        refine (l04Ok_any x _).mono ?_
        rintro e w1 ⟨rfl, hb1⟩
        have hs1 : _ ≤ w1.heap.size := hb1.size
        try simp at hs1
        rw [HB.out]
        have o_a10 : Own (w1) (w.heap.size) 0 (.int .i64 x.1) := ownS; have a10 := o_a10.1; have f_a10 := o_a10.2; have o_a11 : Own (w1) (w.heap.size) 1 (.int .i64 x.2) := ownS; have a11 := o_a11.1; have f_a11 := o_a11.2
        go_wp2
        go_ret
        exact ⟨by rw [E.out]; rfl, belS⟩
  · have HB := Lib.hid (bnd_no b)
    have E := Lib.hid (show sgnI x = 0 from by unfold sgnI; rw [if_neg b])
    clear b
    go_enter Try.func107, Try.ntmps107
    go_wp2_with fail
    refine (l04Ok_any x _).mono ?_
    rintro e w1 ⟨rfl, hb1⟩
    have hs1 : _ ≤ w1.heap.size := hb1.size
    try simp at hs1
    rw [HB.out]
    have o_a10 : Own (w1) (w.heap.size) 0 (.int .i64 x.1) := ownS; have a10 := o_a10.1; have f_a10 := o_a10.2; have o_a11 : Own (w1) (w.heap.size) 1 (.int .i64 x.2) := ownS; have a11 := o_a11.1; have f_a11 := o_a11.2
    go_wp2
    go_ret
    exact ⟨by rw [E.out]; rfl, belS⟩
theorem sSignI_any (x : Iv) (w : World) : Calls Try.prog 45 #[.agg #[.int .i64 x.1, .int .i64 x.2]] w fun e w' =>
    e = .returned (.int .i64 (sgnI x)) ∧ Below w.heap.size w w' := by
  go_enter Try.func45, Try.ntmps45
  go_wp2_with fail
  refine (l09Sign_any x _).mono ?_
  rintro e w1 ⟨rfl, hb1⟩
  have hs1 : _ ≤ w1.heap.size := hb1.size
  try simp at hs1
  go_wp2
  go_ret
  exact ⟨rfl, belS⟩
theorem law_SignI (x : Iv) (w : World) : Calls Try.prog 8 #[.agg #[.int .i64 x.1, .int .i64 x.2]] w fun e w' =>
    e = .returned (.bool true) ∧ Below w.heap.size w w' := by
  have A := Lib.hid (fun w => sSignI_any x w)
  have C := Lib.hid (fun w => SignI_any x w)
  have T := Lib.hid (fun w => toInterval_any x w)
  generalize sgnI x = s at *
  go_enter Try.func8, Try.ntmps8
  go_wp2_with fail
  refine (T.out _).mono ?_
  rintro e w1 ⟨rfl, hb1⟩
  have hs1 : _ ≤ w1.heap.size := hb1.size
  try simp at hs1
  go_wp2_with fail
  refine (A.out _).mono ?_
  rintro e w2 ⟨rfl, hb2⟩
  have hs2 : _ ≤ w2.heap.size := hb2.size
  try simp at hs2
  have o_a20 : Own (w2) (w.heap.size) 0 (.int .i64 x.1) := ownS; have a20 := o_a20.1; have f_a20 := o_a20.2; have o_a21 : Own (w2) (w.heap.size) 1 (.int .i64 x.2) := ownS; have a21 := o_a21.1; have f_a21 := o_a21.2
  go_wp2_with fail
  refine (T.out _).mono ?_
  rintro e w3 ⟨rfl, hb3⟩
  have hs3 : _ ≤ w3.heap.size := hb3.size
  try simp at hs3
  go_wp2_with fail
  refine (C.out _).mono ?_
  rintro e w4 ⟨rfl, hb4⟩
  have hs4 : _ ≤ w4.heap.size := hb4.size
  try simp at hs4
  go_wp2
  go_ret
  exact ⟨rfl, belS⟩
end Go.Proofs.Ytmikjgbojknlnaa
