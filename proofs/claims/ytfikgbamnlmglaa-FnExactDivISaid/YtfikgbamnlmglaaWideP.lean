/- Contracts of square roots, program and model alike. Conditions: numbers that are not negative. -/
import Derived.Test.YtfikgbamnlmglaaWideL
import Derived.Test.YtfikgbamnlmglaaNumH
import Derived.OwnWalk
import Derived.Outline
namespace Go.Proofs.Ytfikgbamnlmglaa
open Go.ChangeShapes Go.WideShapes Go.ChangeAt Go.RowKit
set_option linter.unusedVariables false
set_option maxRecDepth 100000

theorem rootAt_wrap {m s r : Nat} (h : RootAt m (s + 1) r) (hs : s ≤ 63) : bits .or .u64 (r : Int) (IntKind.u64.wrap (2 ^ s)) = ((r + 2 ^ s : Nat) : Int) := by
  have b := rootAt_in h
  have u : InU ((2 : Int) ^ s) := by
    have c : ((2 : Int) ^ s) = ((2 ^ s : Nat) : Int) := by simp
    rw [c]
    generalize (2 : Nat) ^ s = q at b
    unfold InU; omega
  rw [wrapU, loW_self u]
  exact rootAt_word h
/-- The next number that is tried, and what is kept behind it. -/
theorem rootAt_next {m s r : Nat} (h : RootAt m (s + 1) r) (hs : s ≤ 63) : ∃ x : Nat, x < 18446744073709551616 ∧ bits .or .u64 (r : Int) (IntKind.u64.wrap (2 ^ s)) = (x : Int) ∧
    (x * x ≤ m → RootAt m s x) ∧ (¬ x * x ≤ m → RootAt m s r) :=
  ⟨r + 2 ^ s, rootAt_in h, rootAt_wrap h hs, rootAt_yes h, rootAt_no h⟩
theorem natU {n : Nat} (h : n < 18446744073709551616) : InU (n : Int) := by unfold InU; omega
theorem holdsSquare_yes (m n : Nat) (hm : m < 340282366920938463463374607431768211456) (hn : n < 18446744073709551616) (c : n * n ≤ m) (w : World) :
    Calls Try.prog 169 #[.agg #[.int .u64 (hiW (m : Int)), .int .u64 (loW (m : Int))], .int .u64 (n : Int)] w fun e w' => e = .returned (.bool true) ∧ Below w.heap.size w w' := by
  have S := Lib.hid ((sq_halves hm hn).2 c)
  have C := Lib.hid (fun w => Mul64_any n n (natU hn) (natU hn) w)
  clear c hm hn
  by_cases a : hiW ((n : Int) * n) < hiW (m : Int)
  · go_enter Try.func169, Try.ntmps169
    go_wp2_with fail
    refine (C.out _).mono ?_
    rintro e w1 ⟨rfl, rfl⟩
    go_wp2
    go_ret
    exact ⟨rfl, (by repeat (first | exact Below.refl _ _ | refine Below.drew ?_ | refine Below.setCell ?_ (by first | omega | (simp; done) | (simp; omega)) _ | refine Below.alloc ?_ (by first | omega | (simp; done) | (simp; omega)) _ | refine Below.trans ?_ (Below.mono (by assumption) (by first | omega | (simp; done) | (simp; omega)))))⟩
  · have b : (hiW ((n : Int) * n) == hiW (m : Int)) = true := by have := S.out; simp; omega
    have c : loW ((n : Int) * n) ≤ loW (m : Int) := by have := S.out; omega
    go_enter Try.func169, Try.ntmps169
    go_wp2_with fail
    refine (C.out _).mono ?_
    rintro e w1 ⟨rfl, rfl⟩
    go_wp2
    go_ret
    exact ⟨rfl, (by repeat (first | exact Below.refl _ _ | refine Below.drew ?_ | refine Below.setCell ?_ (by first | omega | (simp; done) | (simp; omega)) _ | refine Below.alloc ?_ (by first | omega | (simp; done) | (simp; omega)) _ | refine Below.trans ?_ (Below.mono (by assumption) (by first | omega | (simp; done) | (simp; omega)))))⟩
theorem holdsSquare_no (m n : Nat) (hm : m < 340282366920938463463374607431768211456) (hn : n < 18446744073709551616) (c : ¬ n * n ≤ m) (w : World) :
    Calls Try.prog 169 #[.agg #[.int .u64 (hiW (m : Int)), .int .u64 (loW (m : Int))], .int .u64 (n : Int)] w fun e w' => e = .returned (.bool false) ∧ Below w.heap.size w w' := by
  have S := Lib.hid (fun h => c ((sq_halves hm hn).1 h))
  have C := Lib.hid (fun w => Mul64_any n n (natU hn) (natU hn) w)
  clear c hm hn
  have a : ¬ hiW ((n : Int) * n) < hiW (m : Int) := fun h => S.out (.inl h)
  by_cases b : hiW ((n : Int) * n) = hiW (m : Int)
  · have c : ¬ loW ((n : Int) * n) ≤ loW (m : Int) := fun h => S.out (.inr ⟨b, h⟩)
    have b0 : (hiW ((n : Int) * n) == hiW (m : Int)) = true := by simpa using b
    clear b
    go_enter Try.func169, Try.ntmps169
    go_wp2_with fail
    refine (C.out _).mono ?_
    rintro e w1 ⟨rfl, rfl⟩
    go_wp2
    go_ret
    exact ⟨by simp [a, c], (by repeat (first | exact Below.refl _ _ | refine Below.drew ?_ | refine Below.setCell ?_ (by first | omega | (simp; done) | (simp; omega)) _ | refine Below.alloc ?_ (by first | omega | (simp; done) | (simp; omega)) _ | refine Below.trans ?_ (Below.mono (by assumption) (by first | omega | (simp; done) | (simp; omega)))))⟩
  · have b0 : (hiW ((n : Int) * n) == hiW (m : Int)) = false := by simpa using b
    clear b
    go_enter Try.func169, Try.ntmps169
    go_wp2_with fail
    refine (C.out _).mono ?_
    rintro e w1 ⟨rfl, rfl⟩
    go_wp2
    go_ret
    exact ⟨by simp [a], (by repeat (first | exact Below.refl _ _ | refine Below.drew ?_ | refine Below.setCell ?_ (by first | omega | (simp; done) | (simp; omega)) _ | refine Below.alloc ?_ (by first | omega | (simp; done) | (simp; omega)) _ | refine Below.trans ?_ (Below.mono (by assumption) (by first | omega | (simp; done) | (simp; omega)))))⟩
theorem greatest_any (m D : Nat) (hm : m < 340282366920938463463374607431768211456) (hD : D ≤ 64) (hmD : m < 2 ^ D * 2 ^ D) (w : World) :
    Calls Try.prog 167 #[.int .i64 (D : Int), .func (Fn.func 169) #[.agg #[.int .u64 (hiW (m : Int)), .int .u64 (loW (m : Int))]] #[]] w fun e w' =>
      e = .returned (.int .u64 (rootW m : Int)) ∧ Below w.heap.size w w' := by
  have D0 : (0 : Int) ≤ (D : Int) := by omega
  have D1 : (D : Int) ≤ 64 := by omega
  have ST := Lib.hid (rootAt_start hD hmD)
  have HM := Lib.hid hm
  clear hm hmD
  go_enter Try.func167, Try.ntmps167
  go_wp2
  go_loopw [5, 6] (fun o i wr => ∃ t r : Nat, t ≤ 64 ∧ i = .int .i64 ((t : Int) - 1) ∧ o = .int .u64 (r : Int) ∧ Hid (RootAt m t r) ∧ Below w.heap.size w wr) (fun _ i _ => (intOf i + 1).toNat)
  case atStart => exact ⟨D, 0, hD, rfl, rfl, ST, Below.refl _ _⟩
  case round =>
    obtain ⟨t, r, ht, rfl, rfl, g, hbw⟩ := hrel
    have hsw := hbw.size
    cases t with
    | zero =>
      have e : r = rootW m := g.out.2.2
      have E := Lib.hid e
      clear e
      go_wp2
      go_ret
      exact ⟨by rw [← E.out]; rfl, hbw⟩
    | succ s =>
      obtain ⟨x, hb64, w0, gy, gn⟩ := rootAt_next g.out (by omega)
      have W := Lib.hid w0
      have GY := Lib.hid gy
      have GN := Lib.hid gn
      clear w0 gy gn
      by_cases c : x * x ≤ m
      · have K := Lib.hid (fun w => holdsSquare_yes m x HM.out hb64 c w)
        have G := Lib.hid (GY.out c)
        clear c hb64
        go_wp2_with fail
        rw [W.out]
        refine (K.out _).mono ?_
        rintro e w2 ⟨rfl, hb2⟩
        go_wp2
        go_roundw
        case rel => exact ⟨s, x, by omega, by go_num, rfl, G, hbw.trans (hb2.mono (by omega))⟩
        case measure => first | (simp [intOf]; done) | (simp [intOf]; omega)
      · have K := Lib.hid (fun w => holdsSquare_no m x HM.out hb64 c w)
        have G := Lib.hid (GN.out c)
        clear c hb64
        go_wp2_with fail
        rw [W.out]
        refine (K.out _).mono ?_
        rintro e w2 ⟨rfl, hb2⟩
        go_wp2
        go_roundw
        case rel => exact ⟨s, r, by omega, by go_num, rfl, G, hbw.trans (hb2.mono (by omega))⟩
        case measure => first | (simp [intOf]; done) | (simp [intOf]; omega)
theorem l02Root_any (m : Nat) (hm : m < 170141183460469231731687303715884105728) (w : World) :
    Calls Try.prog 157 #[.agg #[.int .i64 (hiW (m : Int)), .int .u64 (loW (m : Int))]] w fun e w' =>
      e = .returned (.int .u64 (rootW m : Int)) ∧ Below w.heap.size w w' := by
  have HM := Lib.hid (show m < 340282366920938463463374607431768211456 by omega)
  have ST := Lib.hid (rootAt_start (m := m) (D := 64) (by omega) (by rw [show (2 : Nat) ^ 64 * 2 ^ 64 = 340282366920938463463374607431768211456 from rfl]; omega))
  have U := Lib.hid (show IntKind.u64.wrap (hiW (m : Int)) = hiW (m : Int) by rw [wrapU]; exact loW_self (by unfold InU hiW B64; omega))
  clear hm
  have U' := U.out
  go_enter Try.func157, Try.ntmps157
  go_wp2
  go_loop [3, 4] (fun o i => ∃ t r : Nat, t ≤ 64 ∧ i = .int .i64 ((t : Int) - 1) ∧ o = .int .u64 (r : Int) ∧ Hid (RootAt m t r)) (fun _ i => (intOf i + 1).toNat)
  case atStart => exact ⟨64, 0, by omega, rfl, rfl, ST⟩
  case round =>
    obtain ⟨t, r, ht, rfl, rfl, g⟩ := hrel
    cases t with
    | zero =>
      have e : r = rootW m := g.out.2.2
      have E := Lib.hid e
      clear e
      go_wp2
      go_ret
      exact ⟨by rw [← E.out]; rfl, (by repeat (first | exact Below.refl _ _ | refine Below.drew ?_ | refine Below.setCell ?_ (by first | omega | (simp; done) | (simp; omega)) _ | refine Below.alloc ?_ (by first | omega | (simp; done) | (simp; omega)) _ | refine Below.trans ?_ (Below.mono (by assumption) (by first | omega | (simp; done) | (simp; omega)))))⟩
    | succ s =>
      obtain ⟨x, hb64, w0, gy, gn⟩ := rootAt_next g.out (by omega)
      have W := Lib.hid w0
      have GY := Lib.hid gy
      have GN := Lib.hid gn
      clear w0 gy gn
      have M := Lib.hid (fun w => l02Times_any ((x : Int)) (x : Int) (natU hb64) (natU hb64) w)
      have S := Lib.hid (sq_halves HM.out hb64)
      by_cases c : x * x ≤ m
      · have G := Lib.hid (GY.out c)
        have S2 := Lib.hid (S.out.2 c)
        clear c hb64
        by_cases a : hiW ((x : Int) * (x : Int)) < hiW (m : Int)
        · go_wp2_with fail
          rw [W.out]
          refine (M.out _).mono ?_
          rintro e w2 ⟨rfl, rfl⟩
          go_wp2
          go_round
          case rel => exact ⟨s, x, by omega, by go_num, rfl, G⟩
          case measure => first | (simp [intOf]; done) | (simp [intOf]; omega)
        · have b : (hiW ((x : Int) * (x : Int)) == hiW (m : Int)) = true := by have := S2.out; simp; omega
          have c : loW ((x : Int) * (x : Int)) ≤ loW (m : Int) := by have := S2.out; omega
          go_wp2_with fail
          rw [W.out]
          refine (M.out _).mono ?_
          rintro e w2 ⟨rfl, rfl⟩
          go_wp2
          go_round
          case rel => exact ⟨s, x, by omega, by go_num, rfl, G⟩
          case measure => first | (simp [intOf]; done) | (simp [intOf]; omega)
      · have G := Lib.hid (GN.out c)
        have S2 := Lib.hid (fun h => c (S.out.1 h))
        clear c hb64
        have a : ¬ hiW ((x : Int) * (x : Int)) < hiW (m : Int) := fun h => S2.out (.inl h)
        have a0 : decide (hiW ((x : Int) * (x : Int)) < hiW (m : Int)) = false := decide_eq_false a
        by_cases b : hiW ((x : Int) * (x : Int)) = hiW (m : Int)
        · have c : ¬ loW ((x : Int) * (x : Int)) ≤ loW (m : Int) := fun h => S2.out (.inr ⟨b, h⟩)
          have c0 : decide (loW ((x : Int) * (x : Int)) ≤ loW (m : Int)) = false := decide_eq_false c
          have b0 : (hiW ((x : Int) * (x : Int)) == hiW (m : Int)) = true := by simpa using b
          clear b
          go_wp2_with fail
          rw [W.out]
          refine (M.out _).mono ?_
          rintro e w2 ⟨rfl, rfl⟩
          go_wp2
          go_round
          case rel => exact ⟨s, r, by omega, by go_num, rfl, G⟩
          case measure => first | (simp [intOf]; done) | (simp [intOf]; omega)
        · have b0 : (hiW ((x : Int) * (x : Int)) == hiW (m : Int)) = false := by simpa using b
          clear b
          go_wp2_with fail
          rw [W.out]
          refine (M.out _).mono ?_
          rintro e w2 ⟨rfl, rfl⟩
          go_wp2
          go_round
          case rel => exact ⟨s, r, by omega, by go_num, rfl, G⟩
          case measure => first | (simp [intOf]; done) | (simp [intOf]; omega)
end Go.Proofs.Ytfikgbamnlmglaa
