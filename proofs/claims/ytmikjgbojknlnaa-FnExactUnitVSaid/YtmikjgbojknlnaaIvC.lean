/- Contracts of hulls. Conditions: numbers are int64. -/
import Derived.Test.YtmikjgbojknlnaaIvB
import Derived.Test.YtmikjgbojknlnaaMinMax
import Derived.BigQuiet
import Derived.Deep.QuietTactic
import Derived.BigRegion
import Derived.RegionTactic
import Derived.Outline
namespace Go.Proofs.Ytmikjgbojknlnaa
open Go.ChangeShapes Go.WideShapes Go.ChangeAt Go.RowKit
set_option linter.unusedVariables false
set_option maxRecDepth 100000
set_option linter.unusedSimpArgs false
set_option maxHeartbeats 1000000
attribute [local go_sem ↓] run_min_ends run_max_ends

theorem hul4_right (x y z u : Iv) : hul4 x y z u = kn (bnd x && bnd y && bnd z && bnd u) (min x.1 (min y.1 (min z.1 u.1)), max x.2 (max y.2 (max z.2 u.2))) := by
  unfold hul4
  have a : min (min (min x.1 y.1) z.1) u.1 = min x.1 (min y.1 (min z.1 u.1)) := by omega
  have b : max (max (max x.2 y.2) z.2) u.2 = max x.2 (max y.2 (max z.2 u.2)) := by omega
  rw [a, b]
theorem hullT (x y : Iv) (b : Nat) (w : World) (c0 : w.cell? ⟨b, 0, none⟩ = some (.int .i64 y.1)) (c1 : w.cell? ⟨b, 1, none⟩ = some (.int .i64 y.2)) : Calls Try.prog 189 #[.agg #[.int .i64 x.1, .int .i64 x.2], .slice (some ⟨b, 0, none⟩) 1 1] w fun e w' =>
    e = .returned (.agg #[.int .i64 (hulI x y).1, .int .i64 (hulI x y).2]) ∧ Below w.heap.size w w' := by
  have lb : b < w.heap.size := World.block_lt_of_cell? _ _ c0
  have lb1 : b < w.heap.size + 1 := by omega
  have lb2 : b < w.heap.size + 1 + 1 := by omega
  have lb3 : b < w.heap.size + 1 + 1 + 1 := by omega
  have E := Lib.hid (show hulI x y = kn (bnd x && bnd y) (min x.1 (y.1), max x.2 (y.2)) from rfl)
  cases hx : bnd x
  · have HX := Lib.hid hx
    have G := Lib.hid (show (bnd x && bnd y) = false by rw [hx]; simp)
    clear hx
    go_enter Try.func189, Try.ntmps189
    go_wp2
    go_quiet (fail)
    go_wp2
    refine wp_loop_rounds 2 ?_
    rw [rounds_succ]
    go_wp2_with fail
    go_region
    go_wp2
    rw [rounds_succ]
    go_wp2_with fail
    refine (areBounded1 x (w.heap.size + 1 + 1 + 1) _ (by simp [go_sem]) (by simp [go_sem])).mono ?_
    rintro e w1 ⟨rfl, hb1⟩
    have hs1 : _ ≤ w1.heap.size := hb1.size
    try simp at hs1
    rw [HX.out]
    go_wp2_with fail
    refine (interval_any (min x.1 (y.1)) (max x.2 (y.2)) false _).mono ?_
    rintro e w2 ⟨rfl, hb2⟩
    have hs2 : _ ≤ w2.heap.size := hb2.size
    try simp at hs2
    have o_j0 : Own (w2) (w.heap.size + 1) 0 (.int .i64 0) := ownJ; obtain ⟨j0, f_j0⟩ := o_j0; have o_j1 : Own (w2) (w.heap.size + 1) 1 (.int .i64 0) := ownJ; obtain ⟨j1, f_j1⟩ := o_j1
    go_wp2
    exact bodyPost_ret (v := .agg #[.int .i64 (kn (false) (min x.1 (y.1), max x.2 (y.2))).1, .int .i64 (kn (false) (min x.1 (y.1), max x.2 (y.2))).2]) (by simp [results, Try.results189, go_sem, j0, j1]) rfl ⟨by rw [E.out, G.out], belB⟩
  · have HX := Lib.hid hx
    have G := Lib.hid (show (bnd x && bnd y) = (bnd y) by rw [hx]; simp [Bool.and_assoc])
    clear hx
    go_enter Try.func189, Try.ntmps189
    go_wp2
    go_quiet (fail)
    go_wp2
    refine wp_loop_rounds 2 ?_
    rw [rounds_succ]
    go_wp2_with fail
    go_region
    go_wp2
    rw [rounds_succ]
    go_wp2_with fail
    refine (areBounded1 x (w.heap.size + 1 + 1 + 1) _ (by simp [go_sem]) (by simp [go_sem])).mono ?_
    rintro e w1 ⟨rfl, hb1⟩
    have hs1 : _ ≤ w1.heap.size := hb1.size
    try simp at hs1
    rw [HX.out]
    go_wp2_with fail
    refine (areBounded1 y b _ celK celK).mono ?_
    rintro e w2 ⟨rfl, hb2⟩
    have hs2 : _ ≤ w2.heap.size := hb2.size
    try simp at hs2
    go_wp2_with fail
    refine (interval_any (min x.1 (y.1)) (max x.2 (y.2)) (bnd y) _).mono ?_
    rintro e w3 ⟨rfl, hb3⟩
    have hs3 : _ ≤ w3.heap.size := hb3.size
    try simp at hs3
    have o_j0 : Own (w3) (w.heap.size + 1) 0 (.int .i64 0) := ownJ; obtain ⟨j0, f_j0⟩ := o_j0; have o_j1 : Own (w3) (w.heap.size + 1) 1 (.int .i64 0) := ownJ; obtain ⟨j1, f_j1⟩ := o_j1
    go_wp2
    exact bodyPost_ret (v := .agg #[.int .i64 (kn (bnd y) (min x.1 (y.1), max x.2 (y.2))).1, .int .i64 (kn (bnd y) (min x.1 (y.1), max x.2 (y.2))).2]) (by simp [results, Try.results189, go_sem, j0, j1]) rfl ⟨by rw [E.out, G.out], belB⟩
theorem hullQ (x y z u : Iv) (b : Nat) (w : World) (c0 : w.cell? ⟨b, 0, none⟩ = some (.int .i64 y.1)) (c1 : w.cell? ⟨b, 1, none⟩ = some (.int .i64 y.2)) (c2 : w.cell? ⟨b, 2, none⟩ = some (.int .i64 z.1)) (c3 : w.cell? ⟨b, 3, none⟩ = some (.int .i64 z.2)) (c4 : w.cell? ⟨b, 4, none⟩ = some (.int .i64 u.1)) (c5 : w.cell? ⟨b, 5, none⟩ = some (.int .i64 u.2)) : Calls Try.prog 189 #[.agg #[.int .i64 x.1, .int .i64 x.2], .slice (some ⟨b, 0, none⟩) 3 3] w fun e w' =>
    e = .returned (.agg #[.int .i64 (hul4 x y z u).1, .int .i64 (hul4 x y z u).2]) ∧ Below w.heap.size w w' := by
  have lb : b < w.heap.size := World.block_lt_of_cell? _ _ c0
  have lb1 : b < w.heap.size + 1 := by omega
  have lb2 : b < w.heap.size + 1 + 1 := by omega
  have lb3 : b < w.heap.size + 1 + 1 + 1 := by omega
  have lb4 : b < w.heap.size + 1 + 1 + 1 + 1 := by omega
  have lb5 : b < w.heap.size + 1 + 1 + 1 + 1 + 1 := by omega
  have E := Lib.hid (show hul4 x y z u = kn (bnd x && bnd y && bnd z && bnd u) (min x.1 (min y.1 (min z.1 (u.1))), max x.2 (max y.2 (max z.2 (u.2)))) from hul4_right x y z u)
  cases hx : bnd x
  · have HX := Lib.hid hx
    have G := Lib.hid (show (bnd x && bnd y && bnd z && bnd u) = false by rw [hx]; simp)
    clear hx
    go_enter Try.func189, Try.ntmps189
    go_wp2
    go_quiet (fail)
    go_wp2
    refine wp_loop_rounds 4 ?_
    rw [rounds_succ]
    go_wp2_with fail
    go_region
    go_wp2
    rw [rounds_succ]
    go_wp2_with fail
    go_region
    go_wp2
    rw [rounds_succ]
    go_wp2_with fail
    go_region
    go_wp2
    rw [rounds_succ]
    go_wp2_with fail
    refine (areBounded1 x (w.heap.size + 1 + 1 + 1 + 1 + 1) _ (by simp [go_sem]) (by simp [go_sem])).mono ?_
    rintro e w1 ⟨rfl, hb1⟩
    have hs1 : _ ≤ w1.heap.size := hb1.size
    try simp at hs1
    rw [HX.out]
    go_wp2_with fail
    refine (interval_any (min x.1 (min y.1 (min z.1 (u.1)))) (max x.2 (max y.2 (max z.2 (u.2)))) false _).mono ?_
    rintro e w2 ⟨rfl, hb2⟩
    have hs2 : _ ≤ w2.heap.size := hb2.size
    try simp at hs2
    have o_j0 : Own (w2) (w.heap.size + 1) 0 (.int .i64 0) := ownJ; obtain ⟨j0, f_j0⟩ := o_j0; have o_j1 : Own (w2) (w.heap.size + 1) 1 (.int .i64 0) := ownJ; obtain ⟨j1, f_j1⟩ := o_j1
    go_wp2
    exact bodyPost_ret (v := .agg #[.int .i64 (kn (false) (min x.1 (min y.1 (min z.1 (u.1))), max x.2 (max y.2 (max z.2 (u.2))))).1, .int .i64 (kn (false) (min x.1 (min y.1 (min z.1 (u.1))), max x.2 (max y.2 (max z.2 (u.2))))).2]) (by simp [results, Try.results189, go_sem, j0, j1]) rfl ⟨by rw [E.out, G.out], belB⟩
  · have HX := Lib.hid hx
    have G := Lib.hid (show (bnd x && bnd y && bnd z && bnd u) = (bnd y && bnd z && bnd u) by rw [hx]; simp [Bool.and_assoc])
    clear hx
    go_enter Try.func189, Try.ntmps189
    go_wp2
    go_quiet (fail)
    go_wp2
    refine wp_loop_rounds 4 ?_
    rw [rounds_succ]
    go_wp2_with fail
    go_region
    go_wp2
    rw [rounds_succ]
    go_wp2_with fail
    go_region
    go_wp2
    rw [rounds_succ]
    go_wp2_with fail
    go_region
    go_wp2
    rw [rounds_succ]
    go_wp2_with fail
    refine (areBounded1 x (w.heap.size + 1 + 1 + 1 + 1 + 1) _ (by simp [go_sem]) (by simp [go_sem])).mono ?_
    rintro e w1 ⟨rfl, hb1⟩
    have hs1 : _ ≤ w1.heap.size := hb1.size
    try simp at hs1
    rw [HX.out]
    go_wp2_with fail
    refine (areBounded3 y z u b _ celK celK celK celK celK celK).mono ?_
    rintro e w2 ⟨rfl, hb2⟩
    have hs2 : _ ≤ w2.heap.size := hb2.size
    try simp at hs2
    go_wp2_with fail
    refine (interval_any (min x.1 (min y.1 (min z.1 (u.1)))) (max x.2 (max y.2 (max z.2 (u.2)))) (bnd y && bnd z && bnd u) _).mono ?_
    rintro e w3 ⟨rfl, hb3⟩
    have hs3 : _ ≤ w3.heap.size := hb3.size
    try simp at hs3
    have o_j0 : Own (w3) (w.heap.size + 1) 0 (.int .i64 0) := ownJ; obtain ⟨j0, f_j0⟩ := o_j0; have o_j1 : Own (w3) (w.heap.size + 1) 1 (.int .i64 0) := ownJ; obtain ⟨j1, f_j1⟩ := o_j1
    go_wp2
    exact bodyPost_ret (v := .agg #[.int .i64 (kn (bnd y && bnd z && bnd u) (min x.1 (min y.1 (min z.1 (u.1))), max x.2 (max y.2 (max z.2 (u.2))))).1, .int .i64 (kn (bnd y && bnd z && bnd u) (min x.1 (min y.1 (min z.1 (u.1))), max x.2 (max y.2 (max z.2 (u.2))))).2]) (by simp [results, Try.results189, go_sem, j0, j1]) rfl ⟨by rw [E.out, G.out], belB⟩
end Go.Proofs.Ytmikjgbojknlnaa
