/- Contracts of the test whether all intervals of a list are bounded. Conditions: numbers are int64. -/
import Derived.Test.YtmikjgbojknlnaaIvA
import Derived.LoopN
import Derived.Handy
import Derived.Outline
namespace Go.Proofs.Ytmikjgbojknlnaa
open Go.ChangeShapes Go.WideShapes Go.ChangeAt Go.RowKit
set_option linter.unusedVariables false
set_option maxRecDepth 100000
set_option linter.unusedSimpArgs false
set_option maxHeartbeats 1000000

theorem areBounded1 (x : Iv) (b : Nat) (w : World) (c0 : w.cell? ⟨b, 0, none⟩ = some (.int .i64 x.1)) (c1 : w.cell? ⟨b, 1, none⟩ = some (.int .i64 x.2)) : Calls Try.prog 90 #[.slice (some ⟨b, 0, none⟩) 1 1] w fun e w' =>
    e = .returned (.bool (bnd x)) ∧ Below w.heap.size w w' := by
  by_cases h0 : Bnd x
  · have B0 := Lib.hid (bnd_yes h0)
    clear h0
    go_enter Try.func90, Try.ntmps90
    go_wp2
    refine wp_loop_rounds 2 ?_
    rw [rounds_succ]
    go_wp2_with fail
    refine (IsWhole_any x _).mono ?_
    rintro e w1 ⟨rfl, hb1⟩
    have hs1 : _ ≤ w1.heap.size := hb1.size
    try simp at hs1
    rw [B0.out]
    go_wp2
    rw [rounds_succ]
    go_wp2
    go_ret
    exact ⟨by simp [B0.out], belB⟩
  · have B0 := Lib.hid (bnd_no h0)
    clear h0
    go_enter Try.func90, Try.ntmps90
    go_wp2
    refine wp_loop_rounds 2 ?_
    rw [rounds_succ]
    go_wp2_with fail
    refine (IsWhole_any x _).mono ?_
    rintro e w1 ⟨rfl, hb1⟩
    have hs1 : _ ≤ w1.heap.size := hb1.size
    try simp at hs1
    rw [B0.out]
    go_wp2
    go_ret
    exact ⟨by simp [B0.out], belB⟩
theorem areBounded2 (x y : Iv) (b : Nat) (w : World) (c0 : w.cell? ⟨b, 0, none⟩ = some (.int .i64 x.1)) (c1 : w.cell? ⟨b, 1, none⟩ = some (.int .i64 x.2)) (c2 : w.cell? ⟨b, 2, none⟩ = some (.int .i64 y.1)) (c3 : w.cell? ⟨b, 3, none⟩ = some (.int .i64 y.2)) : Calls Try.prog 90 #[.slice (some ⟨b, 0, none⟩) 2 2] w fun e w' =>
    e = .returned (.bool (bnd x && bnd y)) ∧ Below w.heap.size w w' := by
  by_cases h0 : Bnd x
  · by_cases h1 : Bnd y
    · have B0 := Lib.hid (bnd_yes h0)
      have B1 := Lib.hid (bnd_yes h1)
      clear h0 h1
      go_enter Try.func90, Try.ntmps90
      go_wp2
      refine wp_loop_rounds 3 ?_
      rw [rounds_succ]
      go_wp2_with fail
      refine (IsWhole_any x _).mono ?_
      rintro e w1 ⟨rfl, hb1⟩
      have hs1 : _ ≤ w1.heap.size := hb1.size
      try simp at hs1
      rw [B0.out]
      have c2 := cell_kept hb1 (cell_alloc c2)
      have c3 := cell_kept hb1 (cell_alloc c3)
      go_wp2
      rw [rounds_succ]
      go_wp2_with fail
      refine (IsWhole_any y _).mono ?_
      rintro e w2 ⟨rfl, hb2⟩
      have hs2 : _ ≤ w2.heap.size := hb2.size
      try simp at hs2
      rw [B1.out]
      go_wp2
      rw [rounds_succ]
      go_wp2
      go_ret
      exact ⟨by simp [B0.out, B1.out], belB⟩
    · have B0 := Lib.hid (bnd_yes h0)
      have B1 := Lib.hid (bnd_no h1)
      clear h0 h1
      go_enter Try.func90, Try.ntmps90
      go_wp2
      refine wp_loop_rounds 3 ?_
      rw [rounds_succ]
      go_wp2_with fail
      refine (IsWhole_any x _).mono ?_
      rintro e w1 ⟨rfl, hb1⟩
      have hs1 : _ ≤ w1.heap.size := hb1.size
      try simp at hs1
      rw [B0.out]
      have c2 := cell_kept hb1 (cell_alloc c2)
      have c3 := cell_kept hb1 (cell_alloc c3)
      go_wp2
      rw [rounds_succ]
      go_wp2_with fail
      refine (IsWhole_any y _).mono ?_
      rintro e w2 ⟨rfl, hb2⟩
      have hs2 : _ ≤ w2.heap.size := hb2.size
      try simp at hs2
      rw [B1.out]
      go_wp2
      go_ret
      exact ⟨by simp [B0.out, B1.out], belB⟩
  · have B0 := Lib.hid (bnd_no h0)
    clear h0
    go_enter Try.func90, Try.ntmps90
    go_wp2
    refine wp_loop_rounds 3 ?_
    rw [rounds_succ]
    go_wp2_with fail
    refine (IsWhole_any x _).mono ?_
    rintro e w1 ⟨rfl, hb1⟩
    have hs1 : _ ≤ w1.heap.size := hb1.size
    try simp at hs1
    rw [B0.out]
    go_wp2
    go_ret
    exact ⟨by simp [B0.out], belB⟩
theorem areBounded3 (x y z : Iv) (b : Nat) (w : World) (c0 : w.cell? ⟨b, 0, none⟩ = some (.int .i64 x.1)) (c1 : w.cell? ⟨b, 1, none⟩ = some (.int .i64 x.2)) (c2 : w.cell? ⟨b, 2, none⟩ = some (.int .i64 y.1)) (c3 : w.cell? ⟨b, 3, none⟩ = some (.int .i64 y.2)) (c4 : w.cell? ⟨b, 4, none⟩ = some (.int .i64 z.1)) (c5 : w.cell? ⟨b, 5, none⟩ = some (.int .i64 z.2)) : Calls Try.prog 90 #[.slice (some ⟨b, 0, none⟩) 3 3] w fun e w' =>
    e = .returned (.bool (bnd x && bnd y && bnd z)) ∧ Below w.heap.size w w' := by
  by_cases h0 : Bnd x
  · by_cases h1 : Bnd y
    · by_cases h2 : Bnd z
      · have B0 := Lib.hid (bnd_yes h0)
        have B1 := Lib.hid (bnd_yes h1)
        have B2 := Lib.hid (bnd_yes h2)
        clear h0 h1 h2
        go_enter Try.func90, Try.ntmps90
        go_wp2
        refine wp_loop_rounds 4 ?_
        rw [rounds_succ]
        go_wp2_with fail
        refine (IsWhole_any x _).mono ?_
        rintro e w1 ⟨rfl, hb1⟩
        have hs1 : _ ≤ w1.heap.size := hb1.size
        try simp at hs1
        rw [B0.out]
        have c2 := cell_kept hb1 (cell_alloc c2)
        have c3 := cell_kept hb1 (cell_alloc c3)
        have c4 := cell_kept hb1 (cell_alloc c4)
        have c5 := cell_kept hb1 (cell_alloc c5)
        go_wp2
        rw [rounds_succ]
        go_wp2_with fail
        refine (IsWhole_any y _).mono ?_
        rintro e w2 ⟨rfl, hb2⟩
        have hs2 : _ ≤ w2.heap.size := hb2.size
        try simp at hs2
        rw [B1.out]
        have c4 := cell_kept hb2 (cell_alloc c4)
        have c5 := cell_kept hb2 (cell_alloc c5)
        go_wp2
        rw [rounds_succ]
        go_wp2_with fail
        refine (IsWhole_any z _).mono ?_
        rintro e w3 ⟨rfl, hb3⟩
        have hs3 : _ ≤ w3.heap.size := hb3.size
        try simp at hs3
        rw [B2.out]
        go_wp2
        rw [rounds_succ]
        go_wp2
        go_ret
        exact ⟨by simp [B0.out, B1.out, B2.out], belB⟩
      · have B0 := Lib.hid (bnd_yes h0)
        have B1 := Lib.hid (bnd_yes h1)
        have B2 := Lib.hid (bnd_no h2)
        clear h0 h1 h2
        go_enter Try.func90, Try.ntmps90
        go_wp2
        refine wp_loop_rounds 4 ?_
        rw [rounds_succ]
        go_wp2_with fail
        refine (IsWhole_any x _).mono ?_
        rintro e w1 ⟨rfl, hb1⟩
        have hs1 : _ ≤ w1.heap.size := hb1.size
        try simp at hs1
        rw [B0.out]
        have c2 := cell_kept hb1 (cell_alloc c2)
        have c3 := cell_kept hb1 (cell_alloc c3)
        have c4 := cell_kept hb1 (cell_alloc c4)
        have c5 := cell_kept hb1 (cell_alloc c5)
        go_wp2
        rw [rounds_succ]
        go_wp2_with fail
        refine (IsWhole_any y _).mono ?_
        rintro e w2 ⟨rfl, hb2⟩
        have hs2 : _ ≤ w2.heap.size := hb2.size
        try simp at hs2
        rw [B1.out]
        have c4 := cell_kept hb2 (cell_alloc c4)
        have c5 := cell_kept hb2 (cell_alloc c5)
        go_wp2
        rw [rounds_succ]
        go_wp2_with fail
        refine (IsWhole_any z _).mono ?_
        rintro e w3 ⟨rfl, hb3⟩
        have hs3 : _ ≤ w3.heap.size := hb3.size
        try simp at hs3
        rw [B2.out]
        go_wp2
        go_ret
        exact ⟨by simp [B0.out, B1.out, B2.out], belB⟩
    · have B0 := Lib.hid (bnd_yes h0)
      have B1 := Lib.hid (bnd_no h1)
      clear h0 h1
      go_enter Try.func90, Try.ntmps90
      go_wp2
      refine wp_loop_rounds 4 ?_
      rw [rounds_succ]
      go_wp2_with fail
      refine (IsWhole_any x _).mono ?_
      rintro e w1 ⟨rfl, hb1⟩
      have hs1 : _ ≤ w1.heap.size := hb1.size
      try simp at hs1
      rw [B0.out]
      have c2 := cell_kept hb1 (cell_alloc c2)
      have c3 := cell_kept hb1 (cell_alloc c3)
      have c4 := cell_kept hb1 (cell_alloc c4)
      have c5 := cell_kept hb1 (cell_alloc c5)
      go_wp2
      rw [rounds_succ]
      go_wp2_with fail
      refine (IsWhole_any y _).mono ?_
      rintro e w2 ⟨rfl, hb2⟩
      have hs2 : _ ≤ w2.heap.size := hb2.size
      try simp at hs2
      rw [B1.out]
      go_wp2
      go_ret
      exact ⟨by simp [B0.out, B1.out], belB⟩
  · have B0 := Lib.hid (bnd_no h0)
    clear h0
    go_enter Try.func90, Try.ntmps90
    go_wp2
    refine wp_loop_rounds 4 ?_
    rw [rounds_succ]
    go_wp2_with fail
    refine (IsWhole_any x _).mono ?_
    rintro e w1 ⟨rfl, hb1⟩
    have hs1 : _ ≤ w1.heap.size := hb1.size
    try simp at hs1
    rw [B0.out]
    go_wp2
    go_ret
    exact ⟨by simp [B0.out], belB⟩
end Go.Proofs.Ytmikjgbojknlnaa
