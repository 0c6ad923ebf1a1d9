/- Contracts of the tests of intervals, program and model alike. Conditions: numbers are int64. -/
import Derived.Test.YtmikjgbojknlnaaNumZ
import Derived.Test.YtmikjgbojknlnaaBase
import Derived.Outline
namespace Go.Proofs.Ytmikjgbojknlnaa
open Go.ChangeShapes Go.WideShapes Go.ChangeAt Go.RowKit
set_option linter.unusedVariables false
set_option maxRecDepth 100000
set_option linter.unusedSimpArgs false
set_option maxHeartbeats 1000000

theorem Whole_any (w : World) : Calls Try.prog 95 #[] w fun e w' =>
    e = .returned (.agg #[.int .i64 (-1152921504606846976), .int .i64 1152921504606846976]) ∧ Below w.heap.size w w' := by
  go_enter Try.func95, Try.ntmps95
  go_wp2
  exact bodyPost_ret (v := .agg #[.int .i64 (-1152921504606846976), .int .i64 1152921504606846976]) (by simp [results, Try.results95, go_sem]) rfl ⟨rfl, belB⟩
theorem l04Whole_any (w : World) : Calls Try.prog 92 #[] w fun e w' =>
    e = .returned (.agg #[.int .i64 (-1152921504606846976), .int .i64 1152921504606846976]) ∧ Below w.heap.size w w' := by
  go_enter Try.func92, Try.ntmps92
  go_wp2
  exact bodyPost_ret (v := .agg #[.int .i64 (-1152921504606846976), .int .i64 1152921504606846976]) (by simp [results, Try.results92, go_sem]) rfl ⟨rfl, belB⟩
theorem l04Ok_any (x : Iv) (w : World) : Calls Try.prog 91 #[.agg #[.int .i64 x.1, .int .i64 x.2]] w fun e w' =>
    e = .returned (.bool (bnd x)) ∧ Below w.heap.size w w' := by
  by_cases a : -1152921504606846976 < x.1
  · by_cases b : x.1 ≤ x.2
    · by_cases c : x.2 < 1152921504606846976
      · have E := Lib.hid (bnd_yes (x := x) ⟨a, b, c⟩)
        have b0 : decide (x.1 ≤ x.2) = true := decide_eq_true b
        have c0 : decide (x.2 < 1152921504606846976) = true := decide_eq_true c
        go_enter Try.func91, Try.ntmps91
        go_wp2
        go_ret
        exact ⟨(by first | (rw [E.out]; done) | (rw [E.out]; rfl) | (simp [E.out]; done)), belB⟩
      · have E := Lib.hid (bnd_no (x := x) (fun h => c h.2.2))
        have b0 : decide (x.1 ≤ x.2) = true := decide_eq_true b
        have c0 : decide (x.2 < 1152921504606846976) = false := decide_eq_false c
        go_enter Try.func91, Try.ntmps91
        go_wp2
        go_ret
        exact ⟨(by first | (rw [E.out]; done) | (rw [E.out]; rfl) | (simp [E.out]; done)), belB⟩
    · have E := Lib.hid (bnd_no (x := x) (fun h => b h.2.1))
      have b0 : decide (x.1 ≤ x.2) = false := decide_eq_false b
      go_enter Try.func91, Try.ntmps91
      go_wp2
      go_ret
      exact ⟨(by first | (rw [E.out]; done) | (rw [E.out]; rfl) | (simp [E.out]; done)), belB⟩
  · have E := Lib.hid (bnd_no (x := x) (fun h => a h.1))
    go_enter Try.func91, Try.ntmps91
    go_wp2
    go_ret
    exact ⟨(by first | (rw [E.out]; done) | (rw [E.out]; rfl) | (simp [E.out]; done)), belB⟩
theorem canonical_any (x : Iv) (w : World) : Calls Try.prog 153 #[.agg #[.int .i64 x.1, .int .i64 x.2]] w fun e w' =>
    e = .returned (.agg #[.int .i64 (can x).1, .int .i64 (can x).2]) ∧ Below w.heap.size w w' := by
  by_cases a : -1152921504606846976 < x.1
  · by_cases b : x.1 ≤ x.2
    · by_cases c : x.2 < 1152921504606846976
      · have E := Lib.hid (can_yes (x := x) ⟨a, b, c⟩)
        have b0 : decide (x.1 ≤ x.2) = true := decide_eq_true b
        have c0 : decide (x.2 < 1152921504606846976) = true := decide_eq_true c
        go_enter Try.func153, Try.ntmps153
        go_wp2
        exact bodyPost_ret (v := .agg #[.int .i64 x.1, .int .i64 x.2]) (by simp [results, Try.results153, go_sem]) rfl ⟨(by first | (rw [E.out]; done) | (rw [E.out]; rfl) | (simp [E.out]; done)), belB⟩
      · have E := Lib.hid (can_no (x := x) (fun h => c h.2.2))
        have b0 : decide (x.1 ≤ x.2) = true := decide_eq_true b
        have c0 : decide (x.2 < 1152921504606846976) = false := decide_eq_false c
        go_enter Try.func153, Try.ntmps153
        go_wp2_with fail
        refine (Whole_any _).mono ?_
        rintro e w1 ⟨rfl, hb1⟩
        have hs1 : _ ≤ w1.heap.size := hb1.size
        try simp at hs1
        obtain ⟨hc1, hf1⟩ := old_kept hb1; have hz1 : w.heap.size + 1 < w1.heap.size := Nat.lt_of_lt_of_le (by first | omega | (simp; done) | (simp; omega)) hb1.size; have hz1a : w.heap.size < w1.heap.size := Nat.lt_of_lt_of_le (by first | omega | (simp; done) | (simp; omega)) hb1.size
        go_wp2
        exact bodyPost_ret (v := .agg #[.int .i64 (-1152921504606846976), .int .i64 1152921504606846976]) (by simp [results, Try.results153, go_sem, hc1, hz1]) rfl ⟨(by first | (rw [E.out]; done) | (rw [E.out]; rfl) | (simp [E.out]; done)), belB⟩
    · have E := Lib.hid (can_no (x := x) (fun h => b h.2.1))
      have b0 : decide (x.1 ≤ x.2) = false := decide_eq_false b
      go_enter Try.func153, Try.ntmps153
      go_wp2_with fail
      refine (Whole_any _).mono ?_
      rintro e w1 ⟨rfl, hb1⟩
      have hs1 : _ ≤ w1.heap.size := hb1.size
      try simp at hs1
      obtain ⟨hc1, hf1⟩ := old_kept hb1; have hz1 : w.heap.size + 1 < w1.heap.size := Nat.lt_of_lt_of_le (by first | omega | (simp; done) | (simp; omega)) hb1.size; have hz1a : w.heap.size < w1.heap.size := Nat.lt_of_lt_of_le (by first | omega | (simp; done) | (simp; omega)) hb1.size
      go_wp2
      exact bodyPost_ret (v := .agg #[.int .i64 (-1152921504606846976), .int .i64 1152921504606846976]) (by simp [results, Try.results153, go_sem, hc1, hz1]) rfl ⟨(by first | (rw [E.out]; done) | (rw [E.out]; rfl) | (simp [E.out]; done)), belB⟩
  · have E := Lib.hid (can_no (x := x) (fun h => a h.1))
    go_enter Try.func153, Try.ntmps153
    go_wp2_with fail
    refine (Whole_any _).mono ?_
    rintro e w1 ⟨rfl, hb1⟩
    have hs1 : _ ≤ w1.heap.size := hb1.size
    try simp at hs1
    obtain ⟨hc1, hf1⟩ := old_kept hb1; have hz1 : w.heap.size + 1 < w1.heap.size := Nat.lt_of_lt_of_le (by first | omega | (simp; done) | (simp; omega)) hb1.size; have hz1a : w.heap.size < w1.heap.size := Nat.lt_of_lt_of_le (by first | omega | (simp; done) | (simp; omega)) hb1.size
    go_wp2
    exact bodyPost_ret (v := .agg #[.int .i64 (-1152921504606846976), .int .i64 1152921504606846976]) (by simp [results, Try.results153, go_sem, hc1, hz1]) rfl ⟨(by first | (rw [E.out]; done) | (rw [E.out]; rfl) | (simp [E.out]; done)), belB⟩
theorem IsWhole_any (x : Iv) (w : World) : Calls Try.prog 94 #[.agg #[.int .i64 x.1, .int .i64 x.2]] w fun e w' =>
    e = .returned (.bool (!(bnd x))) ∧ Below w.heap.size w w' := by
  by_cases h : Bnd x
  · have B := Lib.hid (bnd_yes h)
    have C := Lib.hid (can_yes h)
    have n0 : (x.1 == -1152921504606846976) = false := by have := h.1; simp; omega
    clear h
    go_enter Try.func94, Try.ntmps94
    go_wp2_with fail
    refine (canonical_any x _).mono ?_
    rintro e w1 ⟨rfl, hb1⟩
    have hs1 : _ ≤ w1.heap.size := hb1.size
    try simp at hs1
    rw [C.out]
    obtain ⟨hc1, hf1⟩ := old_kept hb1; have hz1 : w.heap.size < w1.heap.size := Nat.lt_of_lt_of_le (by first | omega | (simp; done) | (simp; omega)) hb1.size
    go_wp2_with fail
    refine (Whole_any _).mono ?_
    rintro e w2 ⟨rfl, hb2⟩
    have hs2 : _ ≤ w2.heap.size := hb2.size
    try simp at hs2
    go_wp2
    go_ret
    exact ⟨(by first | (rw [B.out]; done) | (rw [B.out]; rfl) | (simp [B.out]; done)), belB⟩
  · have B := Lib.hid (bnd_no h)
    have C := Lib.hid (can_no h)
    clear h
    go_enter Try.func94, Try.ntmps94
    go_wp2_with fail
    refine (canonical_any x _).mono ?_
    rintro e w1 ⟨rfl, hb1⟩
    have hs1 : _ ≤ w1.heap.size := hb1.size
    try simp at hs1
    rw [C.out]
    unfold whl
    obtain ⟨hc1, hf1⟩ := old_kept hb1; have hz1 : w.heap.size < w1.heap.size := Nat.lt_of_lt_of_le (by first | omega | (simp; done) | (simp; omega)) hb1.size
    go_wp2_with fail
    refine (Whole_any _).mono ?_
    rintro e w2 ⟨rfl, hb2⟩
    have hs2 : _ ≤ w2.heap.size := hb2.size
    try simp at hs2
    go_wp2
    go_ret
    exact ⟨(by first | (rw [B.out]; done) | (rw [B.out]; rfl) | (simp [B.out]; done)), belB⟩
theorem sIsWhole_any (x : Iv) (w : World) : Calls Try.prog 124 #[.agg #[.int .i64 x.1, .int .i64 x.2]] w fun e w' =>
    e = .returned (.bool (!(bnd x))) ∧ Below w.heap.size w w' := by
  cases hb : bnd x
  · have HB := Lib.hid hb
    clear hb
    go_enter Try.func124, Try.ntmps124
    go_wp2_with fail
    refine (l04Ok_any x _).mono ?_
    rintro e w1 ⟨rfl, hb1⟩
    have hs1 : _ ≤ w1.heap.size := hb1.size
    try simp at hs1
    rw [HB.out]
    go_wp2
    go_ret
    exact ⟨rfl, belB⟩
  · have HB := Lib.hid hb
    clear hb
    go_enter Try.func124, Try.ntmps124
    go_wp2_with fail
    refine (l04Ok_any x _).mono ?_
    rintro e w1 ⟨rfl, hb1⟩
    have hs1 : _ ≤ w1.heap.size := hb1.size
    try simp at hs1
    rw [HB.out]
    go_wp2
    go_ret
    exact ⟨rfl, belB⟩
theorem interval_any (l h : Int) (c : Bool) (w : World) : Calls Try.prog 135 #[.int .i64 l, .int .i64 h, .bool c] w fun e w' =>
    e = .returned (.agg #[.int .i64 (kn c (l, h)).1, .int .i64 (kn c (l, h)).2]) ∧ Below w.heap.size w w' := by
  have C := Lib.hid (fun w => canonical_any (l, h) w)
  cases c
  · have E := Lib.hid (kn_no (c := false) (x := (l, h)) rfl)
    go_enter Try.func135, Try.ntmps135
    go_wp2_with fail
    refine (Whole_any _).mono ?_
    rintro e w1 ⟨rfl, hb1⟩
    have hs1 : _ ≤ w1.heap.size := hb1.size
    try simp at hs1
    obtain ⟨hc1, hf1⟩ := old_kept hb1; have hz1 : w.heap.size < w1.heap.size := Nat.lt_of_lt_of_le (by first | omega | (simp; done) | (simp; omega)) hb1.size
    go_wp2
    exact bodyPost_ret (v := .agg #[.int .i64 (-1152921504606846976), .int .i64 1152921504606846976]) (by simp [results, Try.results135, go_sem, hc1, hz1]) rfl ⟨(by first | (rw [E.out]; done) | (rw [E.out]; rfl) | (simp [E.out]; done)), belB⟩
  · have E := Lib.hid (kn_yes (c := true) (x := (l, h)) rfl)
    go_enter Try.func135, Try.ntmps135
    go_wp2_with fail
    refine (C.out _).mono ?_
    rintro e w1 ⟨rfl, hb1⟩
    have hs1 : _ ≤ w1.heap.size := hb1.size
    try simp at hs1
    obtain ⟨hc1, hf1⟩ := old_kept hb1; have hz1 : w.heap.size < w1.heap.size := Nat.lt_of_lt_of_le (by first | omega | (simp; done) | (simp; omega)) hb1.size
    go_wp2
    exact bodyPost_ret (v := .agg #[.int .i64 (can (l, h)).1, .int .i64 (can (l, h)).2]) (by simp [results, Try.results135, go_sem, hc1, hz1]) rfl ⟨(by first | (rw [E.out]; done) | (rw [E.out]; rfl) | (simp [E.out]; done)), belB⟩
theorem l04Make_any (l h : Int) (w : World) : Calls Try.prog 152 #[.int .i64 l, .int .i64 h] w fun e w' =>
    e = .returned (.agg #[.int .i64 (can (l, h)).1, .int .i64 (can (l, h)).2]) ∧ Below w.heap.size w w' := by
  have C := Lib.hid (fun w => l04Ok_any (l, h) w)
  by_cases k : Bnd (l, h)
  · have B := Lib.hid (bnd_yes k)
    have E := Lib.hid (can_yes k)
    clear k
    go_enter Try.func152, Try.ntmps152
    go_wp2_with fail
    refine (C.out _).mono ?_
    rintro e w1 ⟨rfl, hb1⟩
    have hs1 : _ ≤ w1.heap.size := hb1.size
    try simp at hs1
    rw [B.out]
    obtain ⟨hc1, hf1⟩ := old_kept hb1; have hz1 : w.heap.size + 1 < w1.heap.size := Nat.lt_of_lt_of_le (by first | omega | (simp; done) | (simp; omega)) hb1.size; have hz1a : w.heap.size < w1.heap.size := Nat.lt_of_lt_of_le (by first | omega | (simp; done) | (simp; omega)) hb1.size
    have p0 := hc1 (w.heap.size) 0 (by first | assumption | omega | (simp; done) | (simp; omega)); simp [go_sem] at p0; have p1 := hc1 (w.heap.size) 1 (by first | assumption | omega | (simp; done) | (simp; omega)); simp [go_sem] at p1
    go_wp2
    exact bodyPost_ret (v := .agg #[.int .i64 l, .int .i64 h]) (by simp [results, Try.results152, go_sem, p0, p1, hz1]) rfl ⟨(by first | (rw [E.out]; done) | (rw [E.out]; rfl) | (simp [E.out]; done)), belB⟩
  · have B := Lib.hid (bnd_no k)
    have E := Lib.hid (can_no k)
    clear k
    go_enter Try.func152, Try.ntmps152
    go_wp2_with fail
    refine (C.out _).mono ?_
    rintro e w1 ⟨rfl, hb1⟩
    have hs1 : _ ≤ w1.heap.size := hb1.size
    try simp at hs1
    rw [B.out]
    obtain ⟨hc1, hf1⟩ := old_kept hb1; have hz1 : w.heap.size + 1 < w1.heap.size := Nat.lt_of_lt_of_le (by first | omega | (simp; done) | (simp; omega)) hb1.size; have hz1a : w.heap.size < w1.heap.size := Nat.lt_of_lt_of_le (by first | omega | (simp; done) | (simp; omega)) hb1.size
    have p0 := hc1 (w.heap.size) 0 (by first | assumption | omega | (simp; done) | (simp; omega)); simp [go_sem] at p0; have p1 := hc1 (w.heap.size) 1 (by first | assumption | omega | (simp; done) | (simp; omega)); simp [go_sem] at p1
    go_wp2_with fail
    refine (l04Whole_any _).mono ?_
    rintro e w2 ⟨rfl, hb2⟩
    have hs2 : _ ≤ w2.heap.size := hb2.size
    try simp at hs2
    obtain ⟨hc2, hf2⟩ := old_kept hb2; have hz2 : w.heap.size < w2.heap.size := Nat.lt_of_lt_of_le (by first | omega | (simp; done) | (simp; omega)) hb2.size
    have q0 := (hc2 (w.heap.size) 0 (by first | assumption | omega | (simp; done) | (simp; omega))).trans p0; have q1 := (hc2 (w.heap.size) 1 (by first | assumption | omega | (simp; done) | (simp; omega))).trans p1
    go_wp2
    exact bodyPost_ret (v := .agg #[.int .i64 (-1152921504606846976), .int .i64 1152921504606846976]) (by simp [results, Try.results152, go_sem, q0, q1]) rfl ⟨(by first | (rw [E.out]; done) | (rw [E.out]; rfl) | (simp [E.out]; done)), belB⟩
end Go.Proofs.Ytmikjgbojknlnaa
