/- Contracts of overlaps and of equality of vectors, program and model. Conditions: numbers are int64. -/
import Derived.Test.YtmikjgbojknlnaaIvR
import Derived.Test.YtmikjgbojknlnaaIvV
import Derived.Test.YtmikjgbojknlnaaNumP
import Derived.Test.YtmikjgbojknlnaaLat
import Derived.Outline
namespace Go.Proofs.Ytmikjgbojknlnaa
open Go.ChangeShapes Go.WideShapes Go.ChangeAt Go.RowKit
set_option linter.unusedVariables false
set_option maxRecDepth 100000
set_option linter.unusedSimpArgs false
set_option maxHeartbeats 1000000
set_option maxHeartbeats 8000000 in
theorem OverlapV_any (x y z x' y' z' : Iv) (w : World) : Calls Try.prog 72 #[.agg #[.int .i64 x.1, .int .i64 x.2, .int .i64 y.1, .int .i64 y.2, .int .i64 z.1, .int .i64 z.2], .agg #[.int .i64 x'.1, .int .i64 x'.2, .int .i64 y'.1, .int .i64 y'.2, .int .i64 z'.1, .int .i64 z'.2]] w fun e w' =>
    e = .returned (.bool (olpI x x' && olpI y y' && olpI z z')) ∧ Below w.heap.size w w' := by
  have O0 := Lib.hid (fun w => OverlapI_any x x' w)
  have O1 := Lib.hid (fun w => OverlapI_any y y' w)
  have O2 := Lib.hid (fun w => OverlapI_any z z' w)
  generalize olpI x x' = p at *
  generalize olpI y y' = q at *
  generalize olpI z z' = r at *
  cases p
  · go_enter Try.func72, Try.ntmps72
    go_wp2_with fail
    refine (O0.out _).mono ?_
    rintro e w1 ⟨rfl, hb1⟩
    have hs1 : _ ≤ w1.heap.size := hb1.size
    try simp at hs1
    go_wp2
    go_ret
    exact ⟨rfl, belS⟩
  · cases q
    · go_enter Try.func72, Try.ntmps72
      go_wp2_with fail
      refine (O0.out _).mono ?_
      rintro e w1 ⟨rfl, hb1⟩
      have hs1 : _ ≤ w1.heap.size := hb1.size
      try simp at hs1
      have o_a10 : Own (w1) (w.heap.size) 0 (.int .i64 x.1) := ownS; have a10 := o_a10.1; have f_a10 := o_a10.2; have o_a11 : Own (w1) (w.heap.size) 1 (.int .i64 x.2) := ownS; have a11 := o_a11.1; have f_a11 := o_a11.2; have o_a12 : Own (w1) (w.heap.size) 2 (.int .i64 y.1) := ownS; have a12 := o_a12.1; have f_a12 := o_a12.2; have o_a13 : Own (w1) (w.heap.size) 3 (.int .i64 y.2) := ownS; have a13 := o_a13.1; have f_a13 := o_a13.2; have o_a14 : Own (w1) (w.heap.size) 4 (.int .i64 z.1) := ownS; have a14 := o_a14.1; have f_a14 := o_a14.2; have o_a15 : Own (w1) (w.heap.size) 5 (.int .i64 z.2) := ownS; have a15 := o_a15.1; have f_a15 := o_a15.2
      have o_b10 : Own (w1) (w.heap.size + 1) 0 (.int .i64 x'.1) := ownS; have b10 := o_b10.1; have f_b10 := o_b10.2; have o_b11 : Own (w1) (w.heap.size + 1) 1 (.int .i64 x'.2) := ownS; have b11 := o_b11.1; have f_b11 := o_b11.2; have o_b12 : Own (w1) (w.heap.size + 1) 2 (.int .i64 y'.1) := ownS; have b12 := o_b12.1; have f_b12 := o_b12.2; have o_b13 : Own (w1) (w.heap.size + 1) 3 (.int .i64 y'.2) := ownS; have b13 := o_b13.1; have f_b13 := o_b13.2; have o_b14 : Own (w1) (w.heap.size + 1) 4 (.int .i64 z'.1) := ownS; have b14 := o_b14.1; have f_b14 := o_b14.2; have o_b15 : Own (w1) (w.heap.size + 1) 5 (.int .i64 z'.2) := ownS; have b15 := o_b15.1; have f_b15 := o_b15.2
      go_wp2_with fail
      refine (O1.out _).mono ?_
      rintro e w2 ⟨rfl, hb2⟩
      have hs2 : _ ≤ w2.heap.size := hb2.size
      try simp at hs2
      go_wp2
      go_ret
      exact ⟨rfl, belS⟩
    · go_enter Try.func72, Try.ntmps72
      go_wp2_with fail
      refine (O0.out _).mono ?_
      rintro e w1 ⟨rfl, hb1⟩
      have hs1 : _ ≤ w1.heap.size := hb1.size
      try simp at hs1
      have o_a10 : Own (w1) (w.heap.size) 0 (.int .i64 x.1) := ownS; have a10 := o_a10.1; have f_a10 := o_a10.2; have o_a11 : Own (w1) (w.heap.size) 1 (.int .i64 x.2) := ownS; have a11 := o_a11.1; have f_a11 := o_a11.2; have o_a12 : Own (w1) (w.heap.size) 2 (.int .i64 y.1) := ownS; have a12 := o_a12.1; have f_a12 := o_a12.2; have o_a13 : Own (w1) (w.heap.size) 3 (.int .i64 y.2) := ownS; have a13 := o_a13.1; have f_a13 := o_a13.2; have o_a14 : Own (w1) (w.heap.size) 4 (.int .i64 z.1) := ownS; have a14 := o_a14.1; have f_a14 := o_a14.2; have o_a15 : Own (w1) (w.heap.size) 5 (.int .i64 z.2) := ownS; have a15 := o_a15.1; have f_a15 := o_a15.2
      have o_b10 : Own (w1) (w.heap.size + 1) 0 (.int .i64 x'.1) := ownS; have b10 := o_b10.1; have f_b10 := o_b10.2; have o_b11 : Own (w1) (w.heap.size + 1) 1 (.int .i64 x'.2) := ownS; have b11 := o_b11.1; have f_b11 := o_b11.2; have o_b12 : Own (w1) (w.heap.size + 1) 2 (.int .i64 y'.1) := ownS; have b12 := o_b12.1; have f_b12 := o_b12.2; have o_b13 : Own (w1) (w.heap.size + 1) 3 (.int .i64 y'.2) := ownS; have b13 := o_b13.1; have f_b13 := o_b13.2; have o_b14 : Own (w1) (w.heap.size + 1) 4 (.int .i64 z'.1) := ownS; have b14 := o_b14.1; have f_b14 := o_b14.2; have o_b15 : Own (w1) (w.heap.size + 1) 5 (.int .i64 z'.2) := ownS; have b15 := o_b15.1; have f_b15 := o_b15.2
      go_wp2_with fail
      refine (O1.out _).mono ?_
      rintro e w2 ⟨rfl, hb2⟩
      have hs2 : _ ≤ w2.heap.size := hb2.size
      try simp at hs2
      have o_a20 : Own (w2) (w.heap.size) 0 (.int .i64 x.1) := ownS; have a20 := o_a20.1; have f_a20 := o_a20.2; have o_a21 : Own (w2) (w.heap.size) 1 (.int .i64 x.2) := ownS; have a21 := o_a21.1; have f_a21 := o_a21.2; have o_a22 : Own (w2) (w.heap.size) 2 (.int .i64 y.1) := ownS; have a22 := o_a22.1; have f_a22 := o_a22.2; have o_a23 : Own (w2) (w.heap.size) 3 (.int .i64 y.2) := ownS; have a23 := o_a23.1; have f_a23 := o_a23.2; have o_a24 : Own (w2) (w.heap.size) 4 (.int .i64 z.1) := ownS; have a24 := o_a24.1; have f_a24 := o_a24.2; have o_a25 : Own (w2) (w.heap.size) 5 (.int .i64 z.2) := ownS; have a25 := o_a25.1; have f_a25 := o_a25.2
      have o_b20 : Own (w2) (w.heap.size + 1) 0 (.int .i64 x'.1) := ownS; have b20 := o_b20.1; have f_b20 := o_b20.2; have o_b21 : Own (w2) (w.heap.size + 1) 1 (.int .i64 x'.2) := ownS; have b21 := o_b21.1; have f_b21 := o_b21.2; have o_b22 : Own (w2) (w.heap.size + 1) 2 (.int .i64 y'.1) := ownS; have b22 := o_b22.1; have f_b22 := o_b22.2; have o_b23 : Own (w2) (w.heap.size + 1) 3 (.int .i64 y'.2) := ownS; have b23 := o_b23.1; have f_b23 := o_b23.2; have o_b24 : Own (w2) (w.heap.size + 1) 4 (.int .i64 z'.1) := ownS; have b24 := o_b24.1; have f_b24 := o_b24.2; have o_b25 : Own (w2) (w.heap.size + 1) 5 (.int .i64 z'.2) := ownS; have b25 := o_b25.1; have f_b25 := o_b25.2
      go_wp2_with fail
      refine (O2.out _).mono ?_
      rintro e w3 ⟨rfl, hb3⟩
      have hs3 : _ ≤ w3.heap.size := hb3.size
      try simp at hs3
      go_wp2
      go_ret
      exact ⟨by simp, belS⟩
set_option maxHeartbeats 8000000 in
theorem sOverlapV_any (x y z x' y' z' : Iv) (w : World) : Calls Try.prog 71 #[.agg #[.int .i64 x.1, .int .i64 x.2, .int .i64 y.1, .int .i64 y.2, .int .i64 z.1, .int .i64 z.2], .agg #[.int .i64 x'.1, .int .i64 x'.2, .int .i64 y'.1, .int .i64 y'.2, .int .i64 z'.1, .int .i64 z'.2]] w fun e w' =>
    e = .returned (.bool (olpI x x' && olpI y y' && olpI z z')) ∧ Below w.heap.size w w' := by
  have O0 := Lib.hid (fun w => sOverlapI_any x x' w)
  have O1 := Lib.hid (fun w => sOverlapI_any y y' w)
  have O2 := Lib.hid (fun w => sOverlapI_any z z' w)
  generalize olpI x x' = p at *
  generalize olpI y y' = q at *
  generalize olpI z z' = r at *
  cases p
  · go_enter Try.func71, Try.ntmps71
    go_wp2_with fail
    refine (O0.out _).mono ?_
    rintro e w1 ⟨rfl, hb1⟩
    have hs1 : _ ≤ w1.heap.size := hb1.size
    try simp at hs1
    go_wp2
    go_ret
    exact ⟨rfl, belS⟩
  · cases q
    · go_enter Try.func71, Try.ntmps71
      go_wp2_with fail
      refine (O0.out _).mono ?_
      rintro e w1 ⟨rfl, hb1⟩
      have hs1 : _ ≤ w1.heap.size := hb1.size
      try simp at hs1
      have o_a10 : Own (w1) (w.heap.size) 0 (.int .i64 x.1) := ownS; have a10 := o_a10.1; have f_a10 := o_a10.2; have o_a11 : Own (w1) (w.heap.size) 1 (.int .i64 x.2) := ownS; have a11 := o_a11.1; have f_a11 := o_a11.2; have o_a12 : Own (w1) (w.heap.size) 2 (.int .i64 y.1) := ownS; have a12 := o_a12.1; have f_a12 := o_a12.2; have o_a13 : Own (w1) (w.heap.size) 3 (.int .i64 y.2) := ownS; have a13 := o_a13.1; have f_a13 := o_a13.2; have o_a14 : Own (w1) (w.heap.size) 4 (.int .i64 z.1) := ownS; have a14 := o_a14.1; have f_a14 := o_a14.2; have o_a15 : Own (w1) (w.heap.size) 5 (.int .i64 z.2) := ownS; have a15 := o_a15.1; have f_a15 := o_a15.2
      have o_b10 : Own (w1) (w.heap.size + 1) 0 (.int .i64 x'.1) := ownS; have b10 := o_b10.1; have f_b10 := o_b10.2; have o_b11 : Own (w1) (w.heap.size + 1) 1 (.int .i64 x'.2) := ownS; have b11 := o_b11.1; have f_b11 := o_b11.2; have o_b12 : Own (w1) (w.heap.size + 1) 2 (.int .i64 y'.1) := ownS; have b12 := o_b12.1; have f_b12 := o_b12.2; have o_b13 : Own (w1) (w.heap.size + 1) 3 (.int .i64 y'.2) := ownS; have b13 := o_b13.1; have f_b13 := o_b13.2; have o_b14 : Own (w1) (w.heap.size + 1) 4 (.int .i64 z'.1) := ownS; have b14 := o_b14.1; have f_b14 := o_b14.2; have o_b15 : Own (w1) (w.heap.size + 1) 5 (.int .i64 z'.2) := ownS; have b15 := o_b15.1; have f_b15 := o_b15.2
      go_wp2_with fail
      refine (O1.out _).mono ?_
      rintro e w2 ⟨rfl, hb2⟩
      have hs2 : _ ≤ w2.heap.size := hb2.size
      try simp at hs2
      go_wp2
      go_ret
      exact ⟨rfl, belS⟩
    · go_enter Try.func71, Try.ntmps71
      go_wp2_with fail
      refine (O0.out _).mono ?_
      rintro e w1 ⟨rfl, hb1⟩
      have hs1 : _ ≤ w1.heap.size := hb1.size
      try simp at hs1
      have o_a10 : Own (w1) (w.heap.size) 0 (.int .i64 x.1) := ownS; have a10 := o_a10.1; have f_a10 := o_a10.2; have o_a11 : Own (w1) (w.heap.size) 1 (.int .i64 x.2) := ownS; have a11 := o_a11.1; have f_a11 := o_a11.2; have o_a12 : Own (w1) (w.heap.size) 2 (.int .i64 y.1) := ownS; have a12 := o_a12.1; have f_a12 := o_a12.2; have o_a13 : Own (w1) (w.heap.size) 3 (.int .i64 y.2) := ownS; have a13 := o_a13.1; have f_a13 := o_a13.2; have o_a14 : Own (w1) (w.heap.size) 4 (.int .i64 z.1) := ownS; have a14 := o_a14.1; have f_a14 := o_a14.2; have o_a15 : Own (w1) (w.heap.size) 5 (.int .i64 z.2) := ownS; have a15 := o_a15.1; have f_a15 := o_a15.2
      have o_b10 : Own (w1) (w.heap.size + 1) 0 (.int .i64 x'.1) := ownS; have b10 := o_b10.1; have f_b10 := o_b10.2; have o_b11 : Own (w1) (w.heap.size + 1) 1 (.int .i64 x'.2) := ownS; have b11 := o_b11.1; have f_b11 := o_b11.2; have o_b12 : Own (w1) (w.heap.size + 1) 2 (.int .i64 y'.1) := ownS; have b12 := o_b12.1; have f_b12 := o_b12.2; have o_b13 : Own (w1) (w.heap.size + 1) 3 (.int .i64 y'.2) := ownS; have b13 := o_b13.1; have f_b13 := o_b13.2; have o_b14 : Own (w1) (w.heap.size + 1) 4 (.int .i64 z'.1) := ownS; have b14 := o_b14.1; have f_b14 := o_b14.2; have o_b15 : Own (w1) (w.heap.size + 1) 5 (.int .i64 z'.2) := ownS; have b15 := o_b15.1; have f_b15 := o_b15.2
      go_wp2_with fail
      refine (O1.out _).mono ?_
      rintro e w2 ⟨rfl, hb2⟩
      have hs2 : _ ≤ w2.heap.size := hb2.size
      try simp at hs2
      have o_a20 : Own (w2) (w.heap.size) 0 (.int .i64 x.1) := ownS; have a20 := o_a20.1; have f_a20 := o_a20.2; have o_a21 : Own (w2) (w.heap.size) 1 (.int .i64 x.2) := ownS; have a21 := o_a21.1; have f_a21 := o_a21.2; have o_a22 : Own (w2) (w.heap.size) 2 (.int .i64 y.1) := ownS; have a22 := o_a22.1; have f_a22 := o_a22.2; have o_a23 : Own (w2) (w.heap.size) 3 (.int .i64 y.2) := ownS; have a23 := o_a23.1; have f_a23 := o_a23.2; have o_a24 : Own (w2) (w.heap.size) 4 (.int .i64 z.1) := ownS; have a24 := o_a24.1; have f_a24 := o_a24.2; have o_a25 : Own (w2) (w.heap.size) 5 (.int .i64 z.2) := ownS; have a25 := o_a25.1; have f_a25 := o_a25.2
      have o_b20 : Own (w2) (w.heap.size + 1) 0 (.int .i64 x'.1) := ownS; have b20 := o_b20.1; have f_b20 := o_b20.2; have o_b21 : Own (w2) (w.heap.size + 1) 1 (.int .i64 x'.2) := ownS; have b21 := o_b21.1; have f_b21 := o_b21.2; have o_b22 : Own (w2) (w.heap.size + 1) 2 (.int .i64 y'.1) := ownS; have b22 := o_b22.1; have f_b22 := o_b22.2; have o_b23 : Own (w2) (w.heap.size + 1) 3 (.int .i64 y'.2) := ownS; have b23 := o_b23.1; have f_b23 := o_b23.2; have o_b24 : Own (w2) (w.heap.size + 1) 4 (.int .i64 z'.1) := ownS; have b24 := o_b24.1; have f_b24 := o_b24.2; have o_b25 : Own (w2) (w.heap.size + 1) 5 (.int .i64 z'.2) := ownS; have b25 := o_b25.1; have f_b25 := o_b25.2
      go_wp2_with fail
      refine (O2.out _).mono ?_
      rintro e w3 ⟨rfl, hb3⟩
      have hs3 : _ ≤ w3.heap.size := hb3.size
      try simp at hs3
      go_wp2
      go_ret
      exact ⟨by simp, belS⟩
set_option maxHeartbeats 8000000 in
theorem SameVec_any (x y z x' y' z' : Iv) (w : World) : Calls Try.prog 55 #[.agg #[.int .i64 x.1, .int .i64 x.2, .int .i64 y.1, .int .i64 y.2, .int .i64 z.1, .int .i64 z.2], .agg #[.int .i64 x'.1, .int .i64 x'.2, .int .i64 y'.1, .int .i64 y'.2, .int .i64 z'.1, .int .i64 z'.2]] w fun e w' =>
    e = .returned (.bool (decide (x = x' ∧ y = y' ∧ z = z'))) ∧ Below w.heap.size w w' := by
  by_cases e0 : x.1 = x'.1
  · by_cases e1 : x.2 = x'.2
    · by_cases e2 : y.1 = y'.1
      · by_cases e3 : y.2 = y'.2
        · by_cases e4 : z.1 = z'.1
          · by_cases e5 : z.2 = z'.2
            · have E : decide (x = x' ∧ y = y' ∧ z = z') = true := decide_eq_true ⟨Prod.ext e0 e1, Prod.ext e2 e3, Prod.ext e4 e5⟩
              have E := Lib.hid E
              have d0 : (x.1 == x'.1) = true := by simpa using e0
              have d1 : (x.2 == x'.2) = true := by simpa using e1
              have d2 : (y.1 == y'.1) = true := by simpa using e2
              have d3 : (y.2 == y'.2) = true := by simpa using e3
              have d4 : (z.1 == z'.1) = true := by simpa using e4
              have d5 : (z.2 == z'.2) = true := by simpa using e5
              clear e0 e1 e2 e3 e4 e5
              go_enter Try.func55, Try.ntmps55
              go_wp2
              go_ret
              exact ⟨by rw [E.out]; rfl, belS⟩
            · have E : decide (x = x' ∧ y = y' ∧ z = z') = false := decide_eq_false (fun h => e5 (by rw [h.2.2]))
              have E := Lib.hid E
              have d0 : (x.1 == x'.1) = true := by simpa using e0
              have d1 : (x.2 == x'.2) = true := by simpa using e1
              have d2 : (y.1 == y'.1) = true := by simpa using e2
              have d3 : (y.2 == y'.2) = true := by simpa using e3
              have d4 : (z.1 == z'.1) = true := by simpa using e4
              have d5 : (z.2 == z'.2) = false := by simpa using e5
              clear e0 e1 e2 e3 e4 e5
              go_enter Try.func55, Try.ntmps55
              go_wp2
              go_ret
              exact ⟨by rw [E.out]; rfl, belS⟩
          · have E : decide (x = x' ∧ y = y' ∧ z = z') = false := decide_eq_false (fun h => e4 (by rw [h.2.2]))
            have E := Lib.hid E
            have d0 : (x.1 == x'.1) = true := by simpa using e0
            have d1 : (x.2 == x'.2) = true := by simpa using e1
            have d2 : (y.1 == y'.1) = true := by simpa using e2
            have d3 : (y.2 == y'.2) = true := by simpa using e3
            have d4 : (z.1 == z'.1) = false := by simpa using e4
            clear e0 e1 e2 e3 e4
            go_enter Try.func55, Try.ntmps55
            go_wp2
            go_ret
            exact ⟨by rw [E.out]; rfl, belS⟩
        · have E : decide (x = x' ∧ y = y' ∧ z = z') = false := decide_eq_false (fun h => e3 (by rw [h.2.1]))
          have E := Lib.hid E
          have d0 : (x.1 == x'.1) = true := by simpa using e0
          have d1 : (x.2 == x'.2) = true := by simpa using e1
          have d2 : (y.1 == y'.1) = true := by simpa using e2
          have d3 : (y.2 == y'.2) = false := by simpa using e3
          clear e0 e1 e2 e3
          go_enter Try.func55, Try.ntmps55
          go_wp2
          go_ret
          exact ⟨by rw [E.out]; rfl, belS⟩
      · have E : decide (x = x' ∧ y = y' ∧ z = z') = false := decide_eq_false (fun h => e2 (by rw [h.2.1]))
        have E := Lib.hid E
        have d0 : (x.1 == x'.1) = true := by simpa using e0
        have d1 : (x.2 == x'.2) = true := by simpa using e1
        have d2 : (y.1 == y'.1) = false := by simpa using e2
        clear e0 e1 e2
        go_enter Try.func55, Try.ntmps55
        go_wp2
        go_ret
        exact ⟨by rw [E.out]; rfl, belS⟩
    · have E : decide (x = x' ∧ y = y' ∧ z = z') = false := decide_eq_false (fun h => e1 (by rw [h.1]))
      have E := Lib.hid E
      have d0 : (x.1 == x'.1) = true := by simpa using e0
      have d1 : (x.2 == x'.2) = false := by simpa using e1
      clear e0 e1
      go_enter Try.func55, Try.ntmps55
      go_wp2
      go_ret
      exact ⟨by rw [E.out]; rfl, belS⟩
  · have E : decide (x = x' ∧ y = y' ∧ z = z') = false := decide_eq_false (fun h => e0 (by rw [h.1]))
    have E := Lib.hid E
    have d0 : (x.1 == x'.1) = false := by simpa using e0
    clear e0
    go_enter Try.func55, Try.ntmps55
    go_wp2
    go_ret
    exact ⟨by rw [E.out]; rfl, belS⟩
set_option maxHeartbeats 8000000 in
theorem sSameVec_any (x y z x' y' z' : Iv) (w : World) : Calls Try.prog 53 #[.agg #[.int .i64 x.1, .int .i64 x.2, .int .i64 y.1, .int .i64 y.2, .int .i64 z.1, .int .i64 z.2], .agg #[.int .i64 x'.1, .int .i64 x'.2, .int .i64 y'.1, .int .i64 y'.2, .int .i64 z'.1, .int .i64 z'.2]] w fun e w' =>
    e = .returned (.bool (decide (x = x' ∧ y = y' ∧ z = z'))) ∧ Below w.heap.size w w' := by
  by_cases e0 : x.1 = x'.1
  · by_cases e1 : x.2 = x'.2
    · by_cases e2 : y.1 = y'.1
      · by_cases e3 : y.2 = y'.2
        · by_cases e4 : z.1 = z'.1
          · by_cases e5 : z.2 = z'.2
            · have E : decide (x = x' ∧ y = y' ∧ z = z') = true := decide_eq_true ⟨Prod.ext e0 e1, Prod.ext e2 e3, Prod.ext e4 e5⟩
              have E := Lib.hid E
              have d0 : (x.1 == x'.1) = true := by simpa using e0
              have d1 : (x.2 == x'.2) = true := by simpa using e1
              have d2 : (y.1 == y'.1) = true := by simpa using e2
              have d3 : (y.2 == y'.2) = true := by simpa using e3
              have d4 : (z.1 == z'.1) = true := by simpa using e4
              have d5 : (z.2 == z'.2) = true := by simpa using e5
              clear e0 e1 e2 e3 e4 e5
              go_enter Try.func53, Try.ntmps53
              go_wp2
              go_ret
              exact ⟨by rw [E.out]; rfl, belS⟩
            · have E : decide (x = x' ∧ y = y' ∧ z = z') = false := decide_eq_false (fun h => e5 (by rw [h.2.2]))
              have E := Lib.hid E
              have d0 : (x.1 == x'.1) = true := by simpa using e0
              have d1 : (x.2 == x'.2) = true := by simpa using e1
              have d2 : (y.1 == y'.1) = true := by simpa using e2
              have d3 : (y.2 == y'.2) = true := by simpa using e3
              have d4 : (z.1 == z'.1) = true := by simpa using e4
              have d5 : (z.2 == z'.2) = false := by simpa using e5
              clear e0 e1 e2 e3 e4 e5
              go_enter Try.func53, Try.ntmps53
              go_wp2
              go_ret
              exact ⟨by rw [E.out]; rfl, belS⟩
          · have E : decide (x = x' ∧ y = y' ∧ z = z') = false := decide_eq_false (fun h => e4 (by rw [h.2.2]))
            have E := Lib.hid E
            have d0 : (x.1 == x'.1) = true := by simpa using e0
            have d1 : (x.2 == x'.2) = true := by simpa using e1
            have d2 : (y.1 == y'.1) = true := by simpa using e2
            have d3 : (y.2 == y'.2) = true := by simpa using e3
            have d4 : (z.1 == z'.1) = false := by simpa using e4
            clear e0 e1 e2 e3 e4
            go_enter Try.func53, Try.ntmps53
            go_wp2
            go_ret
            exact ⟨by rw [E.out]; rfl, belS⟩
        · have E : decide (x = x' ∧ y = y' ∧ z = z') = false := decide_eq_false (fun h => e3 (by rw [h.2.1]))
          have E := Lib.hid E
          have d0 : (x.1 == x'.1) = true := by simpa using e0
          have d1 : (x.2 == x'.2) = true := by simpa using e1
          have d2 : (y.1 == y'.1) = true := by simpa using e2
          have d3 : (y.2 == y'.2) = false := by simpa using e3
          clear e0 e1 e2 e3
          go_enter Try.func53, Try.ntmps53
          go_wp2
          go_ret
          exact ⟨by rw [E.out]; rfl, belS⟩
      · have E : decide (x = x' ∧ y = y' ∧ z = z') = false := decide_eq_false (fun h => e2 (by rw [h.2.1]))
        have E := Lib.hid E
        have d0 : (x.1 == x'.1) = true := by simpa using e0
        have d1 : (x.2 == x'.2) = true := by simpa using e1
        have d2 : (y.1 == y'.1) = false := by simpa using e2
        clear e0 e1 e2
        go_enter Try.func53, Try.ntmps53
        go_wp2
        go_ret
        exact ⟨by rw [E.out]; rfl, belS⟩
    · have E : decide (x = x' ∧ y = y' ∧ z = z') = false := decide_eq_false (fun h => e1 (by rw [h.1]))
      have E := Lib.hid E
      have d0 : (x.1 == x'.1) = true := by simpa using e0
      have d1 : (x.2 == x'.2) = false := by simpa using e1
      clear e0 e1
      go_enter Try.func53, Try.ntmps53
      go_wp2
      go_ret
      exact ⟨by rw [E.out]; rfl, belS⟩
  · have E : decide (x = x' ∧ y = y' ∧ z = z') = false := decide_eq_false (fun h => e0 (by rw [h.1]))
    have E := Lib.hid E
    have d0 : (x.1 == x'.1) = false := by simpa using e0
    clear e0
    go_enter Try.func53, Try.ntmps53
    go_wp2
    go_ret
    exact ⟨by rw [E.out]; rfl, belS⟩
end Go.Proofs.Ytmikjgbojknlnaa
