/- Contracts of square roots, program and model alike. Conditions: numbers that are not negative. Contracts of WideSqrt and SqrtFloor, program and model alike, and their laws. Conditions: numbers are int64 or Wide. Contracts of SqrtFloor, program and model alike, and the laws of WideSqrt and SqrtFloor. Conditions: numbers are int64 or Wide. -/
import Derived.Test.YtmikjgbojknlnaaWideL
import Derived.Test.YtmikjgbojknlnaaNumZ
import Derived.OwnWalk
import Derived.Outline
import Derived.Test.YtmikjgbojknlnaaWideZe
import Derived.Deep.RegionHeld3
namespace Go.Proofs.Ytmikjgbojknlnaa
open Go.ChangeShapes Go.WideShapes Go.ChangeAt Go.RowKit
set_option linter.unusedVariables false
set_option maxRecDepth 100000
set_option linter.unusedSimpArgs false
set_option maxHeartbeats 1000000

theorem rootAt_wrap {m s r : Nat} (h : RootAt m (s + 1) r) (hs : s ≤ 63) : bits .or .u64 (r : Int) (IntKind.u64.wrap (2 ^ s)) = ((r + 2 ^ s : Nat) : Int) := by
  have b := rootAt_in h
  have u : InU ((2 : Int) ^ s) := by
    have c : ((2 : Int) ^ s) = ((2 ^ s : Nat) : Int) := by simp
    rw [c]
    generalize (2 : Nat) ^ s = q at b
    unfold InU; omega
  rw [wrapU, loW_self u]
  exact rootAt_word h
/-- The next number that is tried, and what is kept behind it. -/
theorem rootAt_next {m s r : Nat} (h : RootAt m (s + 1) r) (hs : s ≤ 63) : ∃ x : Nat, x < 18446744073709551616 ∧ bits .or .u64 (r : Int) (IntKind.u64.wrap (2 ^ s)) = (x : Int) ∧
    (x * x ≤ m → RootAt m s x) ∧ (¬ x * x ≤ m → RootAt m s r) :=
  ⟨r + 2 ^ s, rootAt_in h, rootAt_wrap h hs, rootAt_yes h, rootAt_no h⟩
theorem natU {n : Nat} (h : n < 18446744073709551616) : InU (n : Int) := by unfold InU; omega
theorem holdsSquare_yes (m n : Nat) (hm : m < 340282366920938463463374607431768211456) (hn : n < 18446744073709551616) (c : n * n ≤ m) (w : World) :
    Calls Try.prog 203 #[.agg #[.int .u64 (hiW (m : Int)), .int .u64 (loW (m : Int))], .int .u64 (n : Int)] w fun e w' => e = .returned (.bool true) ∧ Below w.heap.size w w' := by
  have S := Lib.hid ((sq_halves hm hn).2 c)
  have C := Lib.hid (fun w => Mul64_any n n (natU hn) (natU hn) w)
  clear c hm hn
  by_cases a : hiW ((n : Int) * n) < hiW (m : Int)
  · go_enter Try.func203, Try.ntmps203
    go_wp2_with fail
    refine (C.out _).mono ?_
    rintro e w1 ⟨rfl, rfl⟩
    go_wp2
    go_ret
    exact ⟨rfl, belB⟩
  · have b : (hiW ((n : Int) * n) == hiW (m : Int)) = true := by have := S.out; simp; omega
    have c : loW ((n : Int) * n) ≤ loW (m : Int) := by have := S.out; omega
    go_enter Try.func203, Try.ntmps203
    go_wp2_with fail
    refine (C.out _).mono ?_
    rintro e w1 ⟨rfl, rfl⟩
    go_wp2
    go_ret
    exact ⟨rfl, belB⟩
theorem holdsSquare_no (m n : Nat) (hm : m < 340282366920938463463374607431768211456) (hn : n < 18446744073709551616) (c : ¬ n * n ≤ m) (w : World) :
    Calls Try.prog 203 #[.agg #[.int .u64 (hiW (m : Int)), .int .u64 (loW (m : Int))], .int .u64 (n : Int)] w fun e w' => e = .returned (.bool false) ∧ Below w.heap.size w w' := by
  have S := Lib.hid (fun h => c ((sq_halves hm hn).1 h))
  have C := Lib.hid (fun w => Mul64_any n n (natU hn) (natU hn) w)
  clear c hm hn
  have a : ¬ hiW ((n : Int) * n) < hiW (m : Int) := fun h => S.out (.inl h)
  by_cases b : hiW ((n : Int) * n) = hiW (m : Int)
  · have c : ¬ loW ((n : Int) * n) ≤ loW (m : Int) := fun h => S.out (.inr ⟨b, h⟩)
    have b0 : (hiW ((n : Int) * n) == hiW (m : Int)) = true := by simpa using b
    clear b
    go_enter Try.func203, Try.ntmps203
    go_wp2_with fail
    refine (C.out _).mono ?_
    rintro e w1 ⟨rfl, rfl⟩
    go_wp2
    go_ret
    exact ⟨by simp [a, c], belB⟩
  · have b0 : (hiW ((n : Int) * n) == hiW (m : Int)) = false := by simpa using b
    clear b
    go_enter Try.func203, Try.ntmps203
    go_wp2_with fail
    refine (C.out _).mono ?_
    rintro e w1 ⟨rfl, rfl⟩
    go_wp2
    go_ret
    exact ⟨by simp [a], belB⟩
theorem greatest_any (m D : Nat) (hm : m < 340282366920938463463374607431768211456) (hD : D ≤ 64) (hmD : m < 2 ^ D * 2 ^ D) (w : World) :
    Calls Try.prog 201 #[.int .i64 (D : Int), .func (Fn.func 203) #[.agg #[.int .u64 (hiW (m : Int)), .int .u64 (loW (m : Int))]] #[]] w fun e w' =>
      e = .returned (.int .u64 (rootW m : Int)) ∧ Below w.heap.size w w' := by
  have D0 : (0 : Int) ≤ (D : Int) := by omega
  have D1 : (D : Int) ≤ 64 := by omega
  have ST := Lib.hid (rootAt_start hD hmD)
  have HM := Lib.hid hm
  clear hm hmD
  go_enter Try.func201, Try.ntmps201
  go_wp2
  go_loopw [5, 6] (fun o i wr => ∃ t r : Nat, t ≤ 64 ∧ i = .int .i64 ((t : Int) - 1) ∧ o = .int .u64 (r : Int) ∧ Hid (RootAt m t r) ∧ Below w.heap.size w wr) (fun _ i _ => (intOf i + 1).toNat)
  case atStart => exact ⟨D, 0, hD, rfl, rfl, ST, Below.refl _ _⟩
  case round =>
    obtain ⟨t, r, ht, rfl, rfl, g, hbw⟩ := hrel
    have hsw := hbw.size
    cases t with
    | zero =>
      have e : r = rootW m := g.out.2.2
      have E := Lib.hid e
      clear e
      go_wp2
      go_ret
      exact ⟨by rw [← E.out]; rfl, hbw⟩
    | succ s =>
      obtain ⟨x, hb64, w0, gy, gn⟩ := rootAt_next g.out (by omega)
      have W := Lib.hid w0
      have GY := Lib.hid gy
      have GN := Lib.hid gn
      clear w0 gy gn
      by_cases c : x * x ≤ m
      · have K := Lib.hid (fun w => holdsSquare_yes m x HM.out hb64 c w)
        have G := Lib.hid (GY.out c)
        clear c hb64
        go_wp2_with fail
        rw [W.out]
        refine (K.out _).mono ?_
        rintro e w2 ⟨rfl, hb2⟩
        go_wp2
        go_roundw
        case rel => exact ⟨s, x, by omega, by go_num, rfl, G, hbw.trans (hb2.mono (by omega))⟩
        case measure => first | (simp [intOf]; done) | (simp [intOf]; omega)
      · have K := Lib.hid (fun w => holdsSquare_no m x HM.out hb64 c w)
        have G := Lib.hid (GN.out c)
        clear c hb64
        go_wp2_with fail
        rw [W.out]
        refine (K.out _).mono ?_
        rintro e w2 ⟨rfl, hb2⟩
        go_wp2
        go_roundw
        case rel => exact ⟨s, r, by omega, by go_num, rfl, G, hbw.trans (hb2.mono (by omega))⟩
        case measure => first | (simp [intOf]; done) | (simp [intOf]; omega)
theorem l02Root_any (m : Nat) (hm : m < 170141183460469231731687303715884105728) (w : World) :
    Calls Try.prog 127 #[.agg #[.int .i64 (hiW (m : Int)), .int .u64 (loW (m : Int))]] w fun e w' =>
      e = .returned (.int .u64 (rootW m : Int)) ∧ Below w.heap.size w w' := by
  have HM := Lib.hid (show m < 340282366920938463463374607431768211456 by omega)
  have ST := Lib.hid (rootAt_start (m := m) (D := 64) (by omega) (by rw [show (2 : Nat) ^ 64 * 2 ^ 64 = 340282366920938463463374607431768211456 from rfl]; omega))
  have U := Lib.hid (show IntKind.u64.wrap (hiW (m : Int)) = hiW (m : Int) by rw [wrapU]; exact loW_self (by unfold InU hiW B64; omega))
  clear hm
  have U' := U.out
  go_enter Try.func127, Try.ntmps127
  go_wp2
  go_loop [3, 4] (fun o i => ∃ t r : Nat, t ≤ 64 ∧ i = .int .i64 ((t : Int) - 1) ∧ o = .int .u64 (r : Int) ∧ Hid (RootAt m t r)) (fun _ i => (intOf i + 1).toNat)
  case atStart => exact ⟨64, 0, by omega, rfl, rfl, ST⟩
  case round =>
    obtain ⟨t, r, ht, rfl, rfl, g⟩ := hrel
    cases t with
    | zero =>
      have e : r = rootW m := g.out.2.2
      have E := Lib.hid e
      clear e
      go_wp2
      go_ret
      exact ⟨by rw [← E.out]; rfl, belB⟩
    | succ s =>
      obtain ⟨x, hb64, w0, gy, gn⟩ := rootAt_next g.out (by omega)
      have W := Lib.hid w0
      have GY := Lib.hid gy
      have GN := Lib.hid gn
      clear w0 gy gn
      have M := Lib.hid (fun w => l02Times_any ((x : Int)) (x : Int) (natU hb64) (natU hb64) w)
      have S := Lib.hid (sq_halves HM.out hb64)
      by_cases c : x * x ≤ m
      · have G := Lib.hid (GY.out c)
        have S2 := Lib.hid (S.out.2 c)
        clear c hb64
        by_cases a : hiW ((x : Int) * (x : Int)) < hiW (m : Int)
        · go_wp2_with fail
          rw [W.out]
          refine (M.out _).mono ?_
          rintro e w2 ⟨rfl, rfl⟩
          go_wp2
          go_round
          case rel => exact ⟨s, x, by omega, by go_num, rfl, G⟩
          case measure => first | (simp [intOf]; done) | (simp [intOf]; omega)
        · have b : (hiW ((x : Int) * (x : Int)) == hiW (m : Int)) = true := by have := S2.out; simp; omega
          have c : loW ((x : Int) * (x : Int)) ≤ loW (m : Int) := by have := S2.out; omega
          go_wp2_with fail
          rw [W.out]
          refine (M.out _).mono ?_
          rintro e w2 ⟨rfl, rfl⟩
          go_wp2
          go_round
          case rel => exact ⟨s, x, by omega, by go_num, rfl, G⟩
          case measure => first | (simp [intOf]; done) | (simp [intOf]; omega)
      · have G := Lib.hid (GN.out c)
        have S2 := Lib.hid (fun h => c (S.out.1 h))
        clear c hb64
        have a : ¬ hiW ((x : Int) * (x : Int)) < hiW (m : Int) := fun h => S2.out (.inl h)
        have a0 : decide (hiW ((x : Int) * (x : Int)) < hiW (m : Int)) = false := decide_eq_false a
        by_cases b : hiW ((x : Int) * (x : Int)) = hiW (m : Int)
        · have c : ¬ loW ((x : Int) * (x : Int)) ≤ loW (m : Int) := fun h => S2.out (.inr ⟨b, h⟩)
          have c0 : decide (loW ((x : Int) * (x : Int)) ≤ loW (m : Int)) = false := decide_eq_false c
          have b0 : (hiW ((x : Int) * (x : Int)) == hiW (m : Int)) = true := by simpa using b
          clear b
          go_wp2_with fail
          rw [W.out]
          refine (M.out _).mono ?_
          rintro e w2 ⟨rfl, rfl⟩
          go_wp2
          go_round
          case rel => exact ⟨s, r, by omega, by go_num, rfl, G⟩
          case measure => first | (simp [intOf]; done) | (simp [intOf]; omega)
        · have b0 : (hiW ((x : Int) * (x : Int)) == hiW (m : Int)) = false := by simpa using b
          clear b
          go_wp2_with fail
          rw [W.out]
          refine (M.out _).mono ?_
          rintro e w2 ⟨rfl, rfl⟩
          go_wp2
          go_round
          case rel => exact ⟨s, r, by omega, by go_num, rfl, G⟩
          case measure => first | (simp [intOf]; done) | (simp [intOf]; omega)
end Go.Proofs.Ytmikjgbojknlnaa
namespace Go.Proofs.Ytmikjgbojknlnaa
open Go.ChangeShapes Go.WideShapes Go.ChangeAt Go.RowKit
set_option linter.unusedVariables false
set_option maxRecDepth 100000
set_option linter.unusedSimpArgs false
set_option maxHeartbeats 1000000

/-- The root of a wide integer; 0 if it is negative. -/
def sqW (v : Int) : Int := if v < 0 then 0 else (rootW v.toNat : Int)
def sqOk (v : Int) : Bool := decide (¬ v < 0)
/-- The number of binary digits of a number of two halves. -/
def lenM (h l : Int) : Int := if h = 0 then lenW l else 64 + lenW h
theorem length_any (h l : Int) (hh : InU h) (hl : InU l) (w : World) : Calls Try.prog 202 #[.agg #[.int .u64 h, .int .u64 l]] w fun e w' =>
    e = .returned (.int .i64 (lenM h l)) ∧ Below w.heap.size w w' := by
  by_cases z : h = 0
  · subst z
    have E := Lib.hid (show lenM 0 l = lenW l from if_pos rfl)
    go_enter Try.func202, Try.ntmps202
    go_wp2_with fail
    refine (Len64_any l hl _).mono ?_
    rintro e w1 ⟨rfl, rfl⟩
    go_wp2
    go_ret
    exact ⟨by rw [E.out]; rfl, belB⟩
  · have z0 : (h == 0) = false := by simpa using z
    have E := Lib.hid (show lenM h l = 64 + lenW h from if_neg z)
    obtain ⟨L0, L1⟩ := lenW_in hh
    clear z
    go_enter Try.func202, Try.ntmps202
    go_wp2_with fail
    refine (Len64_any h hh _).mono ?_
    rintro e w1 ⟨rfl, rfl⟩
    go_wp2
    go_ret
    exact ⟨by rw [E.out]; rfl, belB⟩
theorem lenW_lt {x : Int} (hx : InU x) : ∃ n : Nat, lenW x = n ∧ n ≤ 64 ∧ x < 2 ^ n := by
  by_cases h : 1 ≤ x
  · obtain ⟨n, e, b, _, lt⟩ := lenW_spec hx h
    exact ⟨n + 1, by rw [e]; simp, by omega, lt⟩
  · have : x = 0 := by unfold InU at hx; omega
    subst this
    exact ⟨0, rfl, by omega, by simp⟩
/-- Half of the digits, rounded up: enough for the root. -/
theorem half_digits {m : Nat} (hm : m < 170141183460469231731687303715884105728) :
    ∃ D : Nat, IntKind.i64.wrap ((IntKind.i64.wrap (lenM (hiW (m : Int)) (loW (m : Int)) + 1)).tdiv 2) = (D : Int) ∧ D ≤ 64 ∧ m < 2 ^ D * 2 ^ D := by
  have hh : InU (hiW (m : Int)) := by unfold InU hiW B64; omega
  have hl : InU (loW (m : Int)) := loW_in _
  obtain ⟨L, eL, L1, lt⟩ : ∃ L : Nat, lenM (hiW (m : Int)) (loW (m : Int)) = L ∧ L ≤ 128 ∧ (m : Int) < 2 ^ L := by
    unfold lenM
    split
    · rename_i z
      obtain ⟨n, e, b, lt⟩ := lenW_lt hl
      exact ⟨n, e, by omega, by have := val_hl (m : Int); rw [z] at this; omega⟩
    · obtain ⟨n, e, b, lt⟩ := lenW_lt hh
      refine ⟨64 + n, by rw [e]; simp, by omega, ?_⟩
      have v := val_hl (m : Int)
      have l := loW_in (m : Int)
      have k : (hiW (m : Int) + 1) * B64 ≤ 2 ^ n * B64 := Int.mul_le_mul_of_nonneg_right (by omega) (by unfold B64; omega)
      rw [Int.add_mul, Int.one_mul] at k
      have p : (2 : Int) ^ (64 + n) = 2 ^ n * B64 := by rw [Int.pow_add, Int.mul_comm]; rfl
      rw [p]
      have : loW (m : Int) < B64 := by unfold B64; omega
      omega
  refine ⟨(L + 1) / 2, ?_, by omega, ?_⟩
  · rw [eL, IntKind.wrap_i64, IntKind.wrap_i64]
    have t : ((L : Int) + 1).tdiv 2 = ((L : Int) + 1) / 2 := Int.tdiv_eq_ediv_of_nonneg (by omega)
    have a : ((L : Int) + 1 + 9223372036854775808) % 18446744073709551616 - 9223372036854775808 = (L : Int) + 1 := by omega
    rw [a, t]; omega
  · have lt' : m < 2 ^ L := by exact_mod_cast lt
    rw [← Nat.pow_add]
    exact Nat.lt_of_lt_of_le lt' (Nat.pow_le_pow_right (by decide) (by omega))
set_option maxHeartbeats 1000000 in
theorem WideSqrt_any (v : Int) (hv : InW v) (w : World) : Calls Try.prog 176 #[.agg #[.int .i64 (hiW v), .int .u64 (loW v)]] w fun e w' =>
    e = .returned (.tuple #[.int .u64 (sqW v), .bool (sqOk v)]) ∧ Below w.heap.size w w' := by
  by_cases s : v < 0
  · have E1 := Lib.hid (show sqW v = 0 from if_pos s)
    have E2 := Lib.hid (show sqOk v = false by unfold sqOk; simp [s])
    have s0 : hiW v < 0 := hi_neg_iff.2 s
    clear s
    go_enter Try.func176, Try.ntmps176
    go_wp2
    go_ret2
    exact ⟨by simp [E1.out, E2.out], belB⟩
  · have E1 := Lib.hid (show sqW v = (rootW v.toNat : Int) from if_neg s)
    have E2 := Lib.hid (show sqOk v = true by unfold sqOk; simp [s])
    have s0 : ¬ hiW v < 0 := fun h => s (hi_neg_iff.1 h)
    obtain ⟨m, rfl⟩ : ∃ m : Nat, v = m := ⟨v.toNat, by omega⟩
    have hm : m < 170141183460469231731687303715884105728 := by unfold InW at hv; omega
    obtain ⟨D, d0, d1, d2⟩ := half_digits hm
    have A := Lib.hid (show (((m : Int)).natAbs : Int) = (m : Int) by omega)
    have G := Lib.hid (fun w => greatest_any m D (by omega) d1 d2 w)
    have L := Lib.hid (fun w => length_any (hiW (m : Int)) (loW (m : Int)) (by unfold InU hiW B64; omega) (loW_in _) w)
    clear s hm d1 d2
    go_enter Try.func176, Try.ntmps176
    go_wp2_with fail
    refine (magnitudeOf_any (m : Int) hv _).mono ?_
    rintro e w1 ⟨rfl, hb1⟩
    have hs1 : _ ≤ w1.heap.size := hb1.size
    try simp at hs1
    rw [A.out]
    go_wp2_with fail
    obtain ⟨hlt2, hlt3, hlt4, hlt5, hlt6, hlt7, hlt8, hlt9, hlt10, hlt11⟩ := below_add; go_region_held3 (fun w' => w'.cell? ⟨w1.heap.size, 0, none⟩ = some (.int .u64 (hiW (m : Int))) ∧ w'.cell? ⟨w1.heap.size, 1, none⟩ = some (.int .u64 (loW (m : Int)))) (first | (with_reducible exact ((And.imp (cell_kept (by assumption)) (cell_kept (by assumption))) (by assumption))) | (with_reducible exact ((And.imp (cell_alloc) (cell_alloc)) (by assumption))) | (with_reducible exact ((And.imp (fun h => cell_far (by first | (simp; done) | (simp; omega)) (cell_far (by first | (simp; done) | (simp; omega)) h)) (fun h => cell_far (by first | (simp; done) | (simp; omega)) (cell_far (by first | (simp; done) | (simp; omega)) h))) (by assumption))) | (refine ⟨?_, ?_⟩ <;> repeat (first | (with_reducible assumption) | (with_reducible refine cell_far (by first | (simp; done) | (simp; omega)) ?_) | (with_reducible refine cell_drew ?_) | (with_reducible refine cell_drewN ?_) | (with_reducible refine cell_kept (by assumption) ?_) | (simp [go_sem]; done) | (with_reducible refine cell_alloc ?_))) | (simp [go_sem, *]; done)) (first | (go_at_call 202; refine (L.out _).mono ?_; rintro e w1 ⟨rfl, hb⟩; have hs : _ ≤ w1.heap.size := hb.size; (try simp at hs); obtain ⟨hc, hf, hl, hn, hm⟩ := behind hb) | (go_at_call 201; refine (G.out _).mono ?_; rintro e w1 ⟨rfl, hb⟩; have hs : _ ≤ w1.heap.size := hb.size; (try simp at hs); obtain ⟨hc, hf, hl, hn, hm⟩ := behind hb))
    all_goals go_wp2
    all_goals go_ret2
    all_goals exact ⟨by simp [E1.out, E2.out], belB⟩
end Go.Proofs.Ytmikjgbojknlnaa
namespace Go.Proofs.Ytmikjgbojknlnaa
open Go.ChangeShapes Go.WideShapes Go.ChangeAt Go.RowKit
set_option linter.unusedVariables false
set_option maxRecDepth 100000
set_option linter.unusedSimpArgs false
set_option maxHeartbeats 1000000

/-- The root of a product; 0 if a factor is negative. -/
def sfI (a b : Int) : Int := if a < 0 ∨ b < 0 then 0 else wrap64 (rootW (a * b).toNat : Int)
def sfB (a b : Int) : Bool := decide (¬ (a < 0 ∨ b < 0))
theorem sSqrtFloor_any (a b : Int) (ha : In64 a) (hb : In64 b) (w : World) : Calls Try.prog 187 #[.int .i64 a, .int .i64 b] w fun e w' =>
    e = .returned (.tuple #[.int .i64 (sfI a b), .bool (sfB a b)]) ∧ Below w.heap.size w w' := by
  by_cases sa : a < 0
  · have E1 := Lib.hid (show sfI a b = 0 from if_pos (.inl sa))
    have E2 := Lib.hid (show sfB a b = false by unfold sfB; simp [sa])
    go_enter Try.func187, Try.ntmps187
    go_wp2
    go_ret2
    exact ⟨by simp [E1.out, E2.out], belB⟩
  · by_cases sb : b < 0
    · have E1 := Lib.hid (show sfI a b = 0 from if_pos (.inr sb))
      have E2 := Lib.hid (show sfB a b = false by unfold sfB; simp [sb])
      go_enter Try.func187, Try.ntmps187
      go_wp2
      go_ret2
      exact ⟨by simp [E1.out, E2.out], belB⟩
    · have E1 := Lib.hid (show sfI a b = wrap64 (rootW (a * b).toNat : Int) from if_neg (by omega))
      have E2 := Lib.hid (show sfB a b = true by unfold sfB; simp; omega)
      have p0 : 0 ≤ a * b := Int.mul_nonneg (by omega) (by omega)
      have pm := mul_small ha hb
      obtain ⟨m, hm⟩ : ∃ m : Nat, a * b = m := ⟨(a * b).toNat, by omega⟩
      have HM := Lib.hid hm
      have T := Lib.hid (show (a * b).toNat = m by omega)
      have R := Lib.hid (fun w => l02Root_any m (by omega) w)
      clear p0 pm hm
      go_enter Try.func187, Try.ntmps187
      go_wp2_with fail
      refine (l02Mul_any a b ha hb _).mono ?_
      rintro e w1 ⟨rfl, hb1⟩
      have hs1 : _ ≤ w1.heap.size := hb1.size
      try simp at hs1
      rw [HM.out]
      go_wp2_with fail
      refine (R.out _).mono ?_
      rintro e w2 ⟨rfl, hb2⟩
      have hs2 : _ ≤ w2.heap.size := hb2.size
      try simp at hs2
      go_wp2
      go_ret2
      exact ⟨by simp [E1.out, E2.out, T.out], belB⟩
end Go.Proofs.Ytmikjgbojknlnaa
