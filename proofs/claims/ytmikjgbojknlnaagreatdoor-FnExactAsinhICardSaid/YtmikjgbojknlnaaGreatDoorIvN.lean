/- Contracts of integers and quotients in the model. Conditions: numbers are int64. -/
import Derived.Test.YtmikjgbojknlnaaGreatDoorIvM
import Derived.Test.YtmikjgbojknlnaaGreatDoorFixE
import Derived.Outline
namespace Go.Proofs.YtmikjgbojknlnaaGreatDoor
open Go.ChangeShapes Go.WideShapes Go.ChangeAt Go.RowKit
set_option linter.unusedVariables false
set_option maxRecDepth 100000
set_option linter.unusedSimpArgs false
set_option maxHeartbeats 1000000

theorem sInteger_any (a : Int) (ha : In64 a) (w : World) : Calls Tryz.prog 53 #[.int .i64 a] w fun e w' =>
    e = .returned (.agg #[.int .i64 (intI a).1, .int .i64 (intI a).2]) ∧ Below w.heap.size w w' := by
  by_cases c : -268435455 ≤ a ∧ a ≤ 268435455
  · have E := Lib.hid (intI_yes c.1 c.2)
    have C := Lib.hid (fun w => l00In_yes a (-268435455) 268435455 c.1 c.2 w)
    have LM := Lib.hid (fun w => l04Make_any (a * 4294967296) (a * 4294967296) w)
    have CY := Lib.hid (show can (a * 4294967296, a * 4294967296) = (a * 4294967296, a * 4294967296) from can_yes (by unfold Bnd; simp; omega))
    obtain ⟨c0, c1⟩ := c
    clear ha
    go_enter Tryz.func53, Tryz.ntmps53
    go_wp2_with fail
    refine (C.out _).mono ?_
    rintro e w0 ⟨rfl, rfl⟩
    go_wp2_with fail
    refine (LM.out _).mono ?_
    rintro e w1 ⟨rfl, hb1⟩
    have hs1 : _ ≤ w1.heap.size := hb1.size
    try simp at hs1
    rw [CY.out]
    have o_qr10 : Own (w1) (w.heap.size) 0 (.int .i64 0) := ownJ; obtain ⟨qr10, f_qr10⟩ := o_qr10; have o_qr11 : Own (w1) (w.heap.size) 1 (.int .i64 0) := ownJ; obtain ⟨qr11, f_qr11⟩ := o_qr11
    go_wp2
    exact bodyPost_ret (v := .agg #[.int .i64 (a * 4294967296), .int .i64 (a * 4294967296)]) (by simp [results, Tryz.results53, go_sem, qr10, qr11]) rfl ⟨(by first | (rw [E.out]; done) | (rw [E.out]; rfl) | (simp [E.out]; done)), belB⟩
  · have c' : a < -268435455 ∨ 268435455 < a := by omega
    have E := Lib.hid (intI_no c')
    have C := Lib.hid (fun w => l00In_no a (-268435455) 268435455 c' w)
    clear c c' ha
    go_enter Tryz.func53, Tryz.ntmps53
    go_wp2_with fail
    refine (C.out _).mono ?_
    rintro e w0 ⟨rfl, rfl⟩
    go_wp2_with fail
    refine (l04Whole_any _).mono ?_
    rintro e w1 ⟨rfl, hb1⟩
    have hs1 : _ ≤ w1.heap.size := hb1.size
    try simp at hs1
    have o_qr10 : Own (w1) (w.heap.size) 0 (.int .i64 0) := ownJ; obtain ⟨qr10, f_qr10⟩ := o_qr10; have o_qr11 : Own (w1) (w.heap.size) 1 (.int .i64 0) := ownJ; obtain ⟨qr11, f_qr11⟩ := o_qr11
    go_wp2
    exact bodyPost_ret (v := .agg #[.int .i64 (-1152921504606846976), .int .i64 1152921504606846976]) (by simp [results, Tryz.results53, go_sem, qr10, qr11]) rfl ⟨(by first | (rw [E.out]; done) | (rw [E.out]; rfl) | (simp [E.out]; done)), belB⟩
theorem wrapN {v : Int} (h : In64 v) : IntKind.i64.wrap v = v := by rw [IntKind.wrap_i64]; unfold In64 at h; omega
theorem sQuotient_any (a b : Int) (ha : In64 a) (hb : In64 b) (w : World) : Calls Tryz.prog 187 #[.int .i64 a, .int .i64 b] w fun e w' =>
    e = .returned (.agg #[.int .i64 (quoI a b).1, .int .i64 (quoI a b).2]) ∧ Below w.heap.size w w' := by
  by_cases s : b < 0
  · by_cases m : a = -9223372036854775808
    · have E := Lib.hid (show quoI a b = whl by unfold quoI; rw [if_pos s, if_pos (.inl m)])
      subst m
      go_enter Tryz.func187, Tryz.ntmps187
      go_wp2_with fail
      refine (l04Whole_any _).mono ?_
      rintro e w1 ⟨rfl, hb1⟩
      have hs1 : _ ≤ w1.heap.size := hb1.size
      try simp at hs1
      have o_qr10 : Own (w1) (w.heap.size) 0 (.int .i64 0) := ownJ; obtain ⟨qr10, f_qr10⟩ := o_qr10; have o_qr11 : Own (w1) (w.heap.size) 1 (.int .i64 0) := ownJ; obtain ⟨qr11, f_qr11⟩ := o_qr11
      go_wp2
      exact bodyPost_ret (v := .agg #[.int .i64 (-1152921504606846976), .int .i64 1152921504606846976]) (by simp [results, Tryz.results187, go_sem, qr10, qr11]) rfl ⟨(by first | (rw [E.out]; done) | (rw [E.out]; rfl) | (simp [E.out]; done)), belB⟩
    · by_cases n : b = -9223372036854775808
      · have E := Lib.hid (show quoI a b = whl by unfold quoI; rw [if_pos s, if_pos (.inr n)])
        have m0 : (a == -9223372036854775808) = false := by simpa using m
        clear m
        subst n
        go_enter Tryz.func187, Tryz.ntmps187
        go_wp2_with fail
        refine (l04Whole_any _).mono ?_
        rintro e w1 ⟨rfl, hb1⟩
        have hs1 : _ ≤ w1.heap.size := hb1.size
        try simp at hs1
        have o_qr10 : Own (w1) (w.heap.size) 0 (.int .i64 0) := ownJ; obtain ⟨qr10, f_qr10⟩ := o_qr10; have o_qr11 : Own (w1) (w.heap.size) 1 (.int .i64 0) := ownJ; obtain ⟨qr11, f_qr11⟩ := o_qr11
        go_wp2
        exact bodyPost_ret (v := .agg #[.int .i64 (-1152921504606846976), .int .i64 1152921504606846976]) (by simp [results, Tryz.results187, go_sem, qr10, qr11]) rfl ⟨(by first | (rw [E.out]; done) | (rw [E.out]; rfl) | (simp [E.out]; done)), belB⟩
      · have E := Lib.hid (show quoI a b = flq (-a) (-b) by unfold quoI; rw [if_pos s, if_neg (by omega)])
        have m0 : (a == -9223372036854775808) = false := by simpa using m
        have n0 : (b == -9223372036854775808) = false := by simpa using n
        have FL := Lib.hid (fun w => l03Floor_any (-a) (-b) (by unfold In64 at *; omega) (by unfold In64 at *; omega) w)
        have CL := Lib.hid (fun w => l03Ceil_any (-a) (-b) (by unfold In64 at *; omega) (by unfold In64 at *; omega) w)
        have Q := Lib.hid (show flq (-a) (-b) = kn (resB (okD (-b)) (quoW ((-a) * 4294967296) (-b)) && resB (okD (-b)) (upW ((-a) * 4294967296) (-b))) (resI (okD (-b)) (quoW ((-a) * 4294967296) (-b)), resI (okD (-b)) (upW ((-a) * 4294967296) (-b))) from rfl)
        generalize resB (okD (-b)) (quoW ((-a) * 4294967296) (-b)) = c1 at *
        generalize resB (okD (-b)) (upW ((-a) * 4294967296) (-b)) = c2 at *
        generalize resI (okD (-b)) (quoW ((-a) * 4294967296) (-b)) = l at *
        generalize resI (okD (-b)) (upW ((-a) * 4294967296) (-b)) = h at *
        obtain ⟨a0, a1⟩ := ha
        obtain ⟨b0, b1⟩ := hb
        have a2 : -9223372036854775807 ≤ a := by omega
        have b2 : -9223372036854775807 ≤ b := by omega
        clear m n
        cases c1
        · have G := Lib.hid (show kn (false && c2) (l, h) = whl from kn_no rfl)
          go_enter Tryz.func187, Tryz.ntmps187
          go_wp2_with fail
          refine (FL.out _).mono ?_
          rintro e w1 ⟨rfl, hb1⟩
          have hs1 : _ ≤ w1.heap.size := hb1.size
          try simp at hs1
          have o_qr10 : Own (w1) (w.heap.size) 0 (.int .i64 0) := ownJ; obtain ⟨qr10, f_qr10⟩ := o_qr10; have o_qr11 : Own (w1) (w.heap.size) 1 (.int .i64 0) := ownJ; obtain ⟨qr11, f_qr11⟩ := o_qr11
          go_wp2_with fail
          refine (CL.out _).mono ?_
          rintro e w2 ⟨rfl, hb2⟩
          have hs2 : _ ≤ w2.heap.size := hb2.size
          try simp at hs2
          have o_qr20 : Own (w2) (w.heap.size) 0 (.int .i64 0) := ownJ; obtain ⟨qr20, f_qr20⟩ := o_qr20; have o_qr21 : Own (w2) (w.heap.size) 1 (.int .i64 0) := ownJ; obtain ⟨qr21, f_qr21⟩ := o_qr21
          go_wp2_with fail
          refine (l04Whole_any _).mono ?_
          rintro e w3 ⟨rfl, hb3⟩
          have hs3 : _ ≤ w3.heap.size := hb3.size
          try simp at hs3
          have o_qr30 : Own (w3) (w.heap.size) 0 (.int .i64 0) := ownJ; obtain ⟨qr30, f_qr30⟩ := o_qr30; have o_qr31 : Own (w3) (w.heap.size) 1 (.int .i64 0) := ownJ; obtain ⟨qr31, f_qr31⟩ := o_qr31
          go_wp2
          exact bodyPost_ret (v := .agg #[.int .i64 (-1152921504606846976), .int .i64 1152921504606846976]) (by simp [results, Tryz.results187, go_sem, qr30, qr31]) rfl ⟨(by first | (rw [E.out, Q.out, G.out]; done) | (rw [E.out, Q.out, G.out]; rfl) | (simp [E.out, Q.out, G.out]; done)), belB⟩
        · cases c2
          · have G := Lib.hid (show kn (true && false) (l, h) = whl from kn_no rfl)
            go_enter Tryz.func187, Tryz.ntmps187
            go_wp2_with fail
            refine (FL.out _).mono ?_
            rintro e w1 ⟨rfl, hb1⟩
            have hs1 : _ ≤ w1.heap.size := hb1.size
            try simp at hs1
            have o_qr10 : Own (w1) (w.heap.size) 0 (.int .i64 0) := ownJ; obtain ⟨qr10, f_qr10⟩ := o_qr10; have o_qr11 : Own (w1) (w.heap.size) 1 (.int .i64 0) := ownJ; obtain ⟨qr11, f_qr11⟩ := o_qr11
            go_wp2_with fail
            refine (CL.out _).mono ?_
            rintro e w2 ⟨rfl, hb2⟩
            have hs2 : _ ≤ w2.heap.size := hb2.size
            try simp at hs2
            have o_qr20 : Own (w2) (w.heap.size) 0 (.int .i64 0) := ownJ; obtain ⟨qr20, f_qr20⟩ := o_qr20; have o_qr21 : Own (w2) (w.heap.size) 1 (.int .i64 0) := ownJ; obtain ⟨qr21, f_qr21⟩ := o_qr21
            go_wp2_with fail
            refine (l04Whole_any _).mono ?_
            rintro e w3 ⟨rfl, hb3⟩
            have hs3 : _ ≤ w3.heap.size := hb3.size
            try simp at hs3
            have o_qr30 : Own (w3) (w.heap.size) 0 (.int .i64 0) := ownJ; obtain ⟨qr30, f_qr30⟩ := o_qr30; have o_qr31 : Own (w3) (w.heap.size) 1 (.int .i64 0) := ownJ; obtain ⟨qr31, f_qr31⟩ := o_qr31
            go_wp2
            exact bodyPost_ret (v := .agg #[.int .i64 (-1152921504606846976), .int .i64 1152921504606846976]) (by simp [results, Tryz.results187, go_sem, qr30, qr31]) rfl ⟨(by first | (rw [E.out, Q.out, G.out]; done) | (rw [E.out, Q.out, G.out]; rfl) | (simp [E.out, Q.out, G.out]; done)), belB⟩
          · have G := Lib.hid (show kn (true && true) (l, h) = can (l, h) from kn_yes rfl)
            go_enter Tryz.func187, Tryz.ntmps187
            go_wp2_with fail
            refine (FL.out _).mono ?_
            rintro e w1 ⟨rfl, hb1⟩
            have hs1 : _ ≤ w1.heap.size := hb1.size
            try simp at hs1
            have o_qr10 : Own (w1) (w.heap.size) 0 (.int .i64 0) := ownJ; obtain ⟨qr10, f_qr10⟩ := o_qr10; have o_qr11 : Own (w1) (w.heap.size) 1 (.int .i64 0) := ownJ; obtain ⟨qr11, f_qr11⟩ := o_qr11
            go_wp2_with fail
            refine (CL.out _).mono ?_
            rintro e w2 ⟨rfl, hb2⟩
            have hs2 : _ ≤ w2.heap.size := hb2.size
            try simp at hs2
            have o_qr20 : Own (w2) (w.heap.size) 0 (.int .i64 0) := ownJ; obtain ⟨qr20, f_qr20⟩ := o_qr20; have o_qr21 : Own (w2) (w.heap.size) 1 (.int .i64 0) := ownJ; obtain ⟨qr21, f_qr21⟩ := o_qr21
            go_wp2_with fail
            refine (l04Make_any l h _).mono ?_
            rintro e w3 ⟨rfl, hb3⟩
            have hs3 : _ ≤ w3.heap.size := hb3.size
            try simp at hs3
            have o_qr30 : Own (w3) (w.heap.size) 0 (.int .i64 0) := ownJ; obtain ⟨qr30, f_qr30⟩ := o_qr30; have o_qr31 : Own (w3) (w.heap.size) 1 (.int .i64 0) := ownJ; obtain ⟨qr31, f_qr31⟩ := o_qr31
            go_wp2
            exact bodyPost_ret (v := .agg #[.int .i64 (can (l, h)).1, .int .i64 (can (l, h)).2]) (by simp [results, Tryz.results187, go_sem, qr30, qr31]) rfl ⟨(by first | (rw [E.out, Q.out, G.out]; done) | (rw [E.out, Q.out, G.out]; rfl) | (simp [E.out, Q.out, G.out]; done)), belB⟩
  · have E := Lib.hid (show quoI a b = flq a b from if_neg s)
    have FL := Lib.hid (fun w => l03Floor_any (a) (b) (by unfold In64 at *; omega) (by unfold In64 at *; omega) w)
    have CL := Lib.hid (fun w => l03Ceil_any (a) (b) (by unfold In64 at *; omega) (by unfold In64 at *; omega) w)
    have Q := Lib.hid (show flq (a) (b) = kn (resB (okD (b)) (quoW ((a) * 4294967296) (b)) && resB (okD (b)) (upW ((a) * 4294967296) (b))) (resI (okD (b)) (quoW ((a) * 4294967296) (b)), resI (okD (b)) (upW ((a) * 4294967296) (b))) from rfl)
    generalize resB (okD (b)) (quoW ((a) * 4294967296) (b)) = c1 at *
    generalize resB (okD (b)) (upW ((a) * 4294967296) (b)) = c2 at *
    generalize resI (okD (b)) (quoW ((a) * 4294967296) (b)) = l at *
    generalize resI (okD (b)) (upW ((a) * 4294967296) (b)) = h at *
    cases c1
    · have G := Lib.hid (show kn (false && c2) (l, h) = whl from kn_no rfl)
      go_enter Tryz.func187, Tryz.ntmps187
      go_wp2_with fail
      refine (FL.out _).mono ?_
      rintro e w1 ⟨rfl, hb1⟩
      have hs1 : _ ≤ w1.heap.size := hb1.size
      try simp at hs1
      have o_qr10 : Own (w1) (w.heap.size) 0 (.int .i64 0) := ownJ; obtain ⟨qr10, f_qr10⟩ := o_qr10; have o_qr11 : Own (w1) (w.heap.size) 1 (.int .i64 0) := ownJ; obtain ⟨qr11, f_qr11⟩ := o_qr11
      go_wp2_with fail
      refine (CL.out _).mono ?_
      rintro e w2 ⟨rfl, hb2⟩
      have hs2 : _ ≤ w2.heap.size := hb2.size
      try simp at hs2
      have o_qr20 : Own (w2) (w.heap.size) 0 (.int .i64 0) := ownJ; obtain ⟨qr20, f_qr20⟩ := o_qr20; have o_qr21 : Own (w2) (w.heap.size) 1 (.int .i64 0) := ownJ; obtain ⟨qr21, f_qr21⟩ := o_qr21
      go_wp2_with fail
      refine (l04Whole_any _).mono ?_
      rintro e w3 ⟨rfl, hb3⟩
      have hs3 : _ ≤ w3.heap.size := hb3.size
      try simp at hs3
      have o_qr30 : Own (w3) (w.heap.size) 0 (.int .i64 0) := ownJ; obtain ⟨qr30, f_qr30⟩ := o_qr30; have o_qr31 : Own (w3) (w.heap.size) 1 (.int .i64 0) := ownJ; obtain ⟨qr31, f_qr31⟩ := o_qr31
      go_wp2
      exact bodyPost_ret (v := .agg #[.int .i64 (-1152921504606846976), .int .i64 1152921504606846976]) (by simp [results, Tryz.results187, go_sem, qr30, qr31]) rfl ⟨(by first | (rw [E.out, Q.out, G.out]; done) | (rw [E.out, Q.out, G.out]; rfl) | (simp [E.out, Q.out, G.out]; done)), belB⟩
    · cases c2
      · have G := Lib.hid (show kn (true && false) (l, h) = whl from kn_no rfl)
        go_enter Tryz.func187, Tryz.ntmps187
        go_wp2_with fail
        refine (FL.out _).mono ?_
        rintro e w1 ⟨rfl, hb1⟩
        have hs1 : _ ≤ w1.heap.size := hb1.size
        try simp at hs1
        have o_qr10 : Own (w1) (w.heap.size) 0 (.int .i64 0) := ownJ; obtain ⟨qr10, f_qr10⟩ := o_qr10; have o_qr11 : Own (w1) (w.heap.size) 1 (.int .i64 0) := ownJ; obtain ⟨qr11, f_qr11⟩ := o_qr11
        go_wp2_with fail
        refine (CL.out _).mono ?_
        rintro e w2 ⟨rfl, hb2⟩
        have hs2 : _ ≤ w2.heap.size := hb2.size
        try simp at hs2
        have o_qr20 : Own (w2) (w.heap.size) 0 (.int .i64 0) := ownJ; obtain ⟨qr20, f_qr20⟩ := o_qr20; have o_qr21 : Own (w2) (w.heap.size) 1 (.int .i64 0) := ownJ; obtain ⟨qr21, f_qr21⟩ := o_qr21
        go_wp2_with fail
        refine (l04Whole_any _).mono ?_
        rintro e w3 ⟨rfl, hb3⟩
        have hs3 : _ ≤ w3.heap.size := hb3.size
        try simp at hs3
        have o_qr30 : Own (w3) (w.heap.size) 0 (.int .i64 0) := ownJ; obtain ⟨qr30, f_qr30⟩ := o_qr30; have o_qr31 : Own (w3) (w.heap.size) 1 (.int .i64 0) := ownJ; obtain ⟨qr31, f_qr31⟩ := o_qr31
        go_wp2
        exact bodyPost_ret (v := .agg #[.int .i64 (-1152921504606846976), .int .i64 1152921504606846976]) (by simp [results, Tryz.results187, go_sem, qr30, qr31]) rfl ⟨(by first | (rw [E.out, Q.out, G.out]; done) | (rw [E.out, Q.out, G.out]; rfl) | (simp [E.out, Q.out, G.out]; done)), belB⟩
      · have G := Lib.hid (show kn (true && true) (l, h) = can (l, h) from kn_yes rfl)
        go_enter Tryz.func187, Tryz.ntmps187
        go_wp2_with fail
        refine (FL.out _).mono ?_
        rintro e w1 ⟨rfl, hb1⟩
        have hs1 : _ ≤ w1.heap.size := hb1.size
        try simp at hs1
        have o_qr10 : Own (w1) (w.heap.size) 0 (.int .i64 0) := ownJ; obtain ⟨qr10, f_qr10⟩ := o_qr10; have o_qr11 : Own (w1) (w.heap.size) 1 (.int .i64 0) := ownJ; obtain ⟨qr11, f_qr11⟩ := o_qr11
        go_wp2_with fail
        refine (CL.out _).mono ?_
        rintro e w2 ⟨rfl, hb2⟩
        have hs2 : _ ≤ w2.heap.size := hb2.size
        try simp at hs2
        have o_qr20 : Own (w2) (w.heap.size) 0 (.int .i64 0) := ownJ; obtain ⟨qr20, f_qr20⟩ := o_qr20; have o_qr21 : Own (w2) (w.heap.size) 1 (.int .i64 0) := ownJ; obtain ⟨qr21, f_qr21⟩ := o_qr21
        go_wp2_with fail
        refine (l04Make_any l h _).mono ?_
        rintro e w3 ⟨rfl, hb3⟩
        have hs3 : _ ≤ w3.heap.size := hb3.size
        try simp at hs3
        have o_qr30 : Own (w3) (w.heap.size) 0 (.int .i64 0) := ownJ; obtain ⟨qr30, f_qr30⟩ := o_qr30; have o_qr31 : Own (w3) (w.heap.size) 1 (.int .i64 0) := ownJ; obtain ⟨qr31, f_qr31⟩ := o_qr31
        go_wp2
        exact bodyPost_ret (v := .agg #[.int .i64 (can (l, h)).1, .int .i64 (can (l, h)).2]) (by simp [results, Tryz.results187, go_sem, qr30, qr31]) rfl ⟨(by first | (rw [E.out, Q.out, G.out]; done) | (rw [E.out, Q.out, G.out]; rfl) | (simp [E.out, Q.out, G.out]; done)), belB⟩
end Go.Proofs.YtmikjgbojknlnaaGreatDoor
