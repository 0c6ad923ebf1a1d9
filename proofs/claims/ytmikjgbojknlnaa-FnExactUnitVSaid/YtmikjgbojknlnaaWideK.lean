/- The contract of math/bits.Div64, the walk. Conditions: uint64 numbers, the high half less than the divisor. -/
import Derived.Test.YtmikjgbojknlnaaWideZi
import Derived.OwnWalk
namespace Go.Proofs.Ytmikjgbojknlnaa
open Go.ChangeShapes Go.WideShapes Go.ChangeAt Go.RowKit
set_option linter.unusedVariables false
set_option maxRecDepth 100000
set_option linter.unusedSimpArgs false
set_option maxHeartbeats 1000000

theorem rest_mod {u a : Int} (ha : 0 < a) (u0 : 0 ≤ u) : u - u / a * a = u % a ∧ 0 ≤ u / a * a ∧ u / a * a ≤ u := by
  have e := Int.mul_ediv_add_emod u a
  have m := Int.emod_nonneg u (show a ≠ 0 by omega)
  have q := Int.ediv_nonneg u0 (show 0 ≤ a by omega)
  rw [Int.mul_comm] at e
  have := Int.mul_nonneg q (show 0 ≤ a by omega)
  omega
theorem guess_mul {u c y a b q r : Int} (n : Normal y a b) (g : Guess u c y a b q r) (h : q < 4294967296) : 0 ≤ q * b ∧ q * b ≤ 18446744073709551615 := by
  have b0 := n.b0
  have b1 := n.b1
  have h1 : q * b ≤ 4294967295 * b := Int.mul_le_mul_of_nonneg_right (by omega) b0
  have h2 := Int.mul_nonneg g.q0 b0
  omega
set_option maxHeartbeats 4000000 in
theorem Div64_great (hi lo d y a b u m c e : Int) (n : Nat) (hh : InU hi) (hl : InU lo) (hd : InU d) (h0 : 1 ≤ hi) (hlt : hi < d) (hn : lenW d = (n : Int) + 1) (n63 : n ≤ 63)
    (s : Shifted hi lo d (63 - n) y a b u m c e) (w : World) : Calls Try.prog 223 #[.int .u64 hi, .int .u64 lo, .int .u64 d] w fun e w' =>
    e = .returned (.tuple #[.int .u64 ((hi * B64 + lo) / d), .int .u64 ((hi * B64 + lo) % d)]) ∧ w = w' := by
  have h1 : hi ≤ 18446744073709551615 := hh.2
  have l0 : 0 ≤ lo := hl.1
  have l1 : lo ≤ 18446744073709551615 := hl.2
  have d0 : 0 ≤ d := hd.1
  have d1 : d ≤ 18446744073709551615 := hd.2
  have z0 : (d == 0) = false := by simp; omega
  have z1 : (hi == 0) = false := by simp; omega
  have LZ := Lib.hid (LeadingZeros64_any d hd w)
  have HN := Lib.hid hn
  have S := Lib.hid s
  have END := Lib.hid (div_end s (by omega))
  have NM := Lib.hid s.nm
  have wy := s.wy
  have wa := s.wa
  have wb := s.wb
  have wu := s.wu
  have wm := s.wm
  have wc := s.wc
  have we := s.we
  have a0 : 2147483648 ≤ a := s.nm.a0
  have a1 : a < 4294967296 := s.nm.a1
  have b0 : 0 ≤ b := s.nm.b0
  have b1 : b < 4294967296 := s.nm.b1
  have u0 := s.u0
  have u1 := s.u1
  have y1 := s.y1
  have c0 := s.c0
  have c1 := s.c1
  have e0 := s.e0
  have e1 := s.e1
  have m0 := s.m0
  have m1 := s.m1
  have az : (a == 0) = false := by simp; omega
  obtain ⟨rm, rm0, rm1⟩ := rest_mod (show 0 < a by omega) u0
  have R := Lib.hid (dig_rest u0 u1 c0 c1 (show y ≤ 18446744073709551616 by omega))
  obtain ⟨dq0, dq1, dr0, dr1, _⟩ := dig_in u0 u1 c0 c1
  obtain ⟨rn, rn0, rn1⟩ := rest_mod (show 0 < a by omega) dr0
  have R2 := Lib.hid (dig_rest dr0 dr1 e0 e1 (show y ≤ 18446744073709551616 by omega))
  obtain ⟨ek0, ek1, et0, et1, _⟩ := dig_in dr0 dr1 e0 e1
  clear s hn hh hl hd
  go_enter Try.func223, Try.ntmps223
  go_wp2_with fail
  refine LZ.out.mono ?_
  rintro _ w1 ⟨rfl, rfl⟩
  rw [HN.out]
  go_wp2
  go_loop [15, 16] (fun q r => ∃ q' r' : Int, q = .int .u64 q' ∧ r = .int .u64 r' ∧ Hid (Guess u c y a b q' r') ∧ r' < 4294967296) (fun q _ => (intOf q).toNat)
  case atStart => exact ⟨_, _, rfl, rfl, (guess_start NM.out u0 u1 c0 c1).1, (guess_start NM.out u0 u1 c0 c1).2⟩
  case round =>
    obtain ⟨q1, r1, rfl, rfl, g1, g1r⟩ := hrel
    have g10 : 0 ≤ q1 := g1.out.q0
    have g11 : q1 ≤ 4294967297 := g1.out.q1
    have g12 : 0 ≤ r1 := g1.out.r0
    have g1o := Lib.hid (fun (t : 4294967296 ≤ q1 ∨ 4294967296 * r1 + c < q1 * b) => guess_more NM.out u0 u1 c0 c1 g1.out t)
    by_cases t1 : 4294967296 ≤ q1
    · have x1 : 1 ≤ q1 := by omega
      by_cases v1 : 4294967296 ≤ r1 + a
      · have E1 : q1 - 1 = digQ (u) c y := guess_break NM.out u0 u1 c0 c1 (g1o.out (.inl t1)).1 (by omega) v1
        have W1 : IntKind.u64.wrap (IntKind.u64.wrap (IntKind.u64.wrap (u * 4294967296) + c) - IntKind.u64.wrap (digQ (u) c y * y)) = digR (u) c y := by simp only [wrapU]; exact R.out
        go_wp2
        go_loop [18, 16] (fun q r => ∃ q' r' : Int, q = .int .u64 q' ∧ r = .int .u64 r' ∧ Hid (Guess (digR u c y) e y a b q' r') ∧ r' < 4294967296) (fun q _ => (intOf q).toNat)
        case atStart => exact ⟨_, _, rfl, rfl, (guess_start NM.out dr0 dr1 e0 e1).1, (guess_start NM.out dr0 dr1 e0 e1).2⟩
        case round =>
          obtain ⟨q2, r2, rfl, rfl, g2, g2r⟩ := hrel
          have g20 : 0 ≤ q2 := g2.out.q0
          have g21 : q2 ≤ 4294967297 := g2.out.q1
          have g22 : 0 ≤ r2 := g2.out.r0
          have g2o := Lib.hid (fun (t : 4294967296 ≤ q2 ∨ 4294967296 * r2 + e < q2 * b) => guess_more NM.out dr0 dr1 e0 e1 g2.out t)
          by_cases t2 : 4294967296 ≤ q2
          · have x2 : 1 ≤ q2 := by omega
            by_cases v2 : 4294967296 ≤ r2 + a
            · have E2 : q2 - 1 = digQ (digR u c y) e y := guess_break NM.out dr0 dr1 e0 e1 (g2o.out (.inl t2)).1 (by omega) v2
              have W2 : IntKind.u64.wrap (IntKind.u64.wrap (IntKind.u64.wrap (digR u c y * 4294967296) + e) - IntKind.u64.wrap (digQ (digR u c y) e y * y)) = digR (digR u c y) e y := by simp only [wrapU]; exact R2.out
              go_wp2
              go_wp2
              go_ret2
              exact ⟨by rw [← END.out.1, ← END.out.2]; rfl, rfl⟩
            · go_wp2
              go_round
              case rel => exact ⟨_, _, rfl, rfl, (g2o.out (.inl t2)).1, by omega⟩
              case measure => simp [intOf]; omega
          · have t2' : q2 < 4294967296 := by omega
            obtain ⟨p20, p21⟩ := guess_mul NM.out g2.out t2'
            by_cases s2 : 4294967296 * r2 + e < q2 * b
            · have x2 : 1 ≤ q2 := (g2o.out (.inr s2)).2
              by_cases v2 : 4294967296 ≤ r2 + a
              · have E2 : q2 - 1 = digQ (digR u c y) e y := guess_break NM.out dr0 dr1 e0 e1 (g2o.out (.inr s2)).1 (by omega) v2
                have W2 : IntKind.u64.wrap (IntKind.u64.wrap (IntKind.u64.wrap (digR u c y * 4294967296) + e) - IntKind.u64.wrap (digQ (digR u c y) e y * y)) = digR (digR u c y) e y := by simp only [wrapU]; exact R2.out
                go_wp2
                go_wp2
                go_ret2
                exact ⟨by rw [← END.out.1, ← END.out.2]; rfl, rfl⟩
              · go_wp2
                go_round
                case rel => exact ⟨_, _, rfl, rfl, (g2o.out (.inr s2)).1, by omega⟩
                case measure => simp [intOf]; omega
            · have E2 := guess_right NM.out dr0 dr1 e0 e1 g2.out (by omega)
              subst E2
              have W2 : IntKind.u64.wrap (IntKind.u64.wrap (IntKind.u64.wrap (digR u c y * 4294967296) + e) - IntKind.u64.wrap (digQ (digR u c y) e y * y)) = digR (digR u c y) e y := by simp only [wrapU]; exact R2.out
              go_wp2
              go_wp2
              go_ret2
              exact ⟨by rw [← END.out.1, ← END.out.2]; rfl, rfl⟩
      · go_wp2
        go_round
        case rel => exact ⟨_, _, rfl, rfl, (g1o.out (.inl t1)).1, by omega⟩
        case measure => simp [intOf]; omega
    · have t1' : q1 < 4294967296 := by omega
      obtain ⟨p10, p11⟩ := guess_mul NM.out g1.out t1'
      by_cases s1 : 4294967296 * r1 + c < q1 * b
      · have x1 : 1 ≤ q1 := (g1o.out (.inr s1)).2
        by_cases v1 : 4294967296 ≤ r1 + a
        · have E1 : q1 - 1 = digQ (u) c y := guess_break NM.out u0 u1 c0 c1 (g1o.out (.inr s1)).1 (by omega) v1
          have W1 : IntKind.u64.wrap (IntKind.u64.wrap (IntKind.u64.wrap (u * 4294967296) + c) - IntKind.u64.wrap (digQ (u) c y * y)) = digR (u) c y := by simp only [wrapU]; exact R.out
          go_wp2
          go_loop [18, 16] (fun q r => ∃ q' r' : Int, q = .int .u64 q' ∧ r = .int .u64 r' ∧ Hid (Guess (digR u c y) e y a b q' r') ∧ r' < 4294967296) (fun q _ => (intOf q).toNat)
          case atStart => exact ⟨_, _, rfl, rfl, (guess_start NM.out dr0 dr1 e0 e1).1, (guess_start NM.out dr0 dr1 e0 e1).2⟩
          case round =>
            obtain ⟨q2, r2, rfl, rfl, g2, g2r⟩ := hrel
            have g20 : 0 ≤ q2 := g2.out.q0
            have g21 : q2 ≤ 4294967297 := g2.out.q1
            have g22 : 0 ≤ r2 := g2.out.r0
            have g2o := Lib.hid (fun (t : 4294967296 ≤ q2 ∨ 4294967296 * r2 + e < q2 * b) => guess_more NM.out dr0 dr1 e0 e1 g2.out t)
            by_cases t2 : 4294967296 ≤ q2
            · have x2 : 1 ≤ q2 := by omega
              by_cases v2 : 4294967296 ≤ r2 + a
              · have E2 : q2 - 1 = digQ (digR u c y) e y := guess_break NM.out dr0 dr1 e0 e1 (g2o.out (.inl t2)).1 (by omega) v2
                have W2 : IntKind.u64.wrap (IntKind.u64.wrap (IntKind.u64.wrap (digR u c y * 4294967296) + e) - IntKind.u64.wrap (digQ (digR u c y) e y * y)) = digR (digR u c y) e y := by simp only [wrapU]; exact R2.out
                go_wp2
                go_wp2
                go_ret2
                exact ⟨by rw [← END.out.1, ← END.out.2]; rfl, rfl⟩
              · go_wp2
                go_round
                case rel => exact ⟨_, _, rfl, rfl, (g2o.out (.inl t2)).1, by omega⟩
                case measure => simp [intOf]; omega
            · have t2' : q2 < 4294967296 := by omega
              obtain ⟨p20, p21⟩ := guess_mul NM.out g2.out t2'
              by_cases s2 : 4294967296 * r2 + e < q2 * b
              · have x2 : 1 ≤ q2 := (g2o.out (.inr s2)).2
                by_cases v2 : 4294967296 ≤ r2 + a
                · have E2 : q2 - 1 = digQ (digR u c y) e y := guess_break NM.out dr0 dr1 e0 e1 (g2o.out (.inr s2)).1 (by omega) v2
                  have W2 : IntKind.u64.wrap (IntKind.u64.wrap (IntKind.u64.wrap (digR u c y * 4294967296) + e) - IntKind.u64.wrap (digQ (digR u c y) e y * y)) = digR (digR u c y) e y := by simp only [wrapU]; exact R2.out
                  go_wp2
                  go_wp2
                  go_ret2
                  exact ⟨by rw [← END.out.1, ← END.out.2]; rfl, rfl⟩
                · go_wp2
                  go_round
                  case rel => exact ⟨_, _, rfl, rfl, (g2o.out (.inr s2)).1, by omega⟩
                  case measure => simp [intOf]; omega
              · have E2 := guess_right NM.out dr0 dr1 e0 e1 g2.out (by omega)
                subst E2
                have W2 : IntKind.u64.wrap (IntKind.u64.wrap (IntKind.u64.wrap (digR u c y * 4294967296) + e) - IntKind.u64.wrap (digQ (digR u c y) e y * y)) = digR (digR u c y) e y := by simp only [wrapU]; exact R2.out
                go_wp2
                go_wp2
                go_ret2
                exact ⟨by rw [← END.out.1, ← END.out.2]; rfl, rfl⟩
        · go_wp2
          go_round
          case rel => exact ⟨_, _, rfl, rfl, (g1o.out (.inr s1)).1, by omega⟩
          case measure => simp [intOf]; omega
      · have E1 := guess_right NM.out u0 u1 c0 c1 g1.out (by omega)
        subst E1
        have W1 : IntKind.u64.wrap (IntKind.u64.wrap (IntKind.u64.wrap (u * 4294967296) + c) - IntKind.u64.wrap (digQ (u) c y * y)) = digR (u) c y := by simp only [wrapU]; exact R.out
        go_wp2
        go_loop [18, 16] (fun q r => ∃ q' r' : Int, q = .int .u64 q' ∧ r = .int .u64 r' ∧ Hid (Guess (digR u c y) e y a b q' r') ∧ r' < 4294967296) (fun q _ => (intOf q).toNat)
        case atStart => exact ⟨_, _, rfl, rfl, (guess_start NM.out dr0 dr1 e0 e1).1, (guess_start NM.out dr0 dr1 e0 e1).2⟩
        case round =>
          obtain ⟨q2, r2, rfl, rfl, g2, g2r⟩ := hrel
          have g20 : 0 ≤ q2 := g2.out.q0
          have g21 : q2 ≤ 4294967297 := g2.out.q1
          have g22 : 0 ≤ r2 := g2.out.r0
          have g2o := Lib.hid (fun (t : 4294967296 ≤ q2 ∨ 4294967296 * r2 + e < q2 * b) => guess_more NM.out dr0 dr1 e0 e1 g2.out t)
          by_cases t2 : 4294967296 ≤ q2
          · have x2 : 1 ≤ q2 := by omega
            by_cases v2 : 4294967296 ≤ r2 + a
            · have E2 : q2 - 1 = digQ (digR u c y) e y := guess_break NM.out dr0 dr1 e0 e1 (g2o.out (.inl t2)).1 (by omega) v2
              have W2 : IntKind.u64.wrap (IntKind.u64.wrap (IntKind.u64.wrap (digR u c y * 4294967296) + e) - IntKind.u64.wrap (digQ (digR u c y) e y * y)) = digR (digR u c y) e y := by simp only [wrapU]; exact R2.out
              go_wp2
              go_wp2
              go_ret2
              exact ⟨by rw [← END.out.1, ← END.out.2]; rfl, rfl⟩
            · go_wp2
              go_round
              case rel => exact ⟨_, _, rfl, rfl, (g2o.out (.inl t2)).1, by omega⟩
              case measure => simp [intOf]; omega
          · have t2' : q2 < 4294967296 := by omega
            obtain ⟨p20, p21⟩ := guess_mul NM.out g2.out t2'
            by_cases s2 : 4294967296 * r2 + e < q2 * b
            · have x2 : 1 ≤ q2 := (g2o.out (.inr s2)).2
              by_cases v2 : 4294967296 ≤ r2 + a
              · have E2 : q2 - 1 = digQ (digR u c y) e y := guess_break NM.out dr0 dr1 e0 e1 (g2o.out (.inr s2)).1 (by omega) v2
                have W2 : IntKind.u64.wrap (IntKind.u64.wrap (IntKind.u64.wrap (digR u c y * 4294967296) + e) - IntKind.u64.wrap (digQ (digR u c y) e y * y)) = digR (digR u c y) e y := by simp only [wrapU]; exact R2.out
                go_wp2
                go_wp2
                go_ret2
                exact ⟨by rw [← END.out.1, ← END.out.2]; rfl, rfl⟩
              · go_wp2
                go_round
                case rel => exact ⟨_, _, rfl, rfl, (g2o.out (.inr s2)).1, by omega⟩
                case measure => simp [intOf]; omega
            · have E2 := guess_right NM.out dr0 dr1 e0 e1 g2.out (by omega)
              subst E2
              have W2 : IntKind.u64.wrap (IntKind.u64.wrap (IntKind.u64.wrap (digR u c y * 4294967296) + e) - IntKind.u64.wrap (digQ (digR u c y) e y * y)) = digR (digR u c y) e y := by simp only [wrapU]; exact R2.out
              go_wp2
              go_wp2
              go_ret2
              exact ⟨by rw [← END.out.1, ← END.out.2]; rfl, rfl⟩
end Go.Proofs.Ytmikjgbojknlnaa
