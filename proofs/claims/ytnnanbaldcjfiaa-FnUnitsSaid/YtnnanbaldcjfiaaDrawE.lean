/- Contracts of l05Number and E8Fix: a number that a source of choices gives, of at most a given size. Conditions: as in DrawA. -/
import Derived.Test.YtnnanbaldcjfiaaDrawC
namespace Go.Proofs.Ytnnanbaldcjfiaa
open Go.ChangeShapes Go.WideShapes Go.ChangeAt Go.RowKit
set_option linter.unusedVariables false
set_option maxRecDepth 100000
set_option linter.unusedSimpArgs false
set_option maxHeartbeats 1000000

theorem pow_ge_one (k : Nat) : (1 : Int) ≤ 2 ^ k := by have := pow_pos' k; omega
theorem div_between {y m : Int} (h0 : -m ≤ y) (h1 : y ≤ m) (k : Nat) : -m ≤ y / 2 ^ k ∧ y / 2 ^ k ≤ m := by
  have p := pow_ge_one k
  have m0 : 0 ≤ m := by omega
  refine ⟨?_, ?_⟩
  · apply Int.le_ediv_of_mul_le (by omega)
    have : m * 1 ≤ m * 2 ^ k := Int.mul_le_mul_of_nonneg_left p m0
    rw [Int.neg_mul]; omega
  · apply Int.ediv_le_of_le_mul (by omega)
    have : m * 1 ≤ m * 2 ^ k := Int.mul_le_mul_of_nonneg_left p m0
    omega
theorem neg_between {y m : Int} (h0 : -m ≤ y) (h1 : y ≤ m) (h2 : m ≤ 4611686018427387904) : IntKind.i64.wrap (-y) = -y ∧ -m ≤ -y ∧ -y ≤ m := by
  refine ⟨?_, by omega, by omega⟩
  rw [IntKind.wrap_i64]; omega
theorem tmod_between (n : Int) {m : Int} (h : 1 ≤ m) : -m ≤ n.tmod (m + 1) ∧ n.tmod (m + 1) ≤ m := by
  have a := Int.lt_tmod_of_pos n (show 0 < m + 1 by omega)
  have b := Int.tmod_lt_of_pos n (show 0 < m + 1 by omega)
  omega
theorem half_between {m : Int} (h : 1 ≤ m) : -m ≤ m.tdiv 2 ∧ m.tdiv 2 ≤ m := by
  rw [Int.tdiv_eq_ediv_of_nonneg (by omega)]; omega
/-- The number, or its opposite. -/
theorem l05_tail {y m : Int} (h0 : -m ≤ y) (h1 : y ≤ m) (h2 : m ≤ 4611686018427387904) {w w' : World} {c N : Nat} (hs : Src w' c N) (g : w.grownBy w' (some c)) :
    (∃ x, (.returned (.int .i64 y) : Ending) = .returned (.int .i64 x) ∧ -m ≤ x ∧ x ≤ m ∧ Src w' c N ∧ w.grownBy w' (some c)) ∧
    (∃ x, (.returned (.int .i64 (wrap64 (-y))) : Ending) = .returned (.int .i64 x) ∧ -m ≤ x ∧ x ≤ m ∧ Src w' c N ∧ w.grownBy w' (some c)) ∧
    (∃ x, (.returned (.int .i64 (-y)) : Ending) = .returned (.int .i64 x) ∧ -m ≤ x ∧ x ≤ m ∧ Src w' c N ∧ w.grownBy w' (some c)) := by
  obtain ⟨e, n0, n1⟩ := neg_between h0 h1 h2
  exact ⟨⟨_, rfl, h0, h1, hs, g⟩, ⟨-y, by rw [wrap64_self (by unfold In64; omega)], n0, n1, hs, g⟩, ⟨-y, rfl, n0, n1, hs, g⟩⟩
theorem l05Number_any (c N : Nat) (hN : N ≤ 800000000) (m : Int) (m0 : 1 ≤ m) (m1 : m ≤ 4611686018427387904) (w : World) (hs : Src w c N) : Calls Try.prog 87 #[.pointer (some ⟨c, 0, none⟩), .int .i64 m] w fun e w' =>
    ∃ x, e = .returned (.int .i64 x) ∧ -m ≤ x ∧ x ≤ m ∧ Src w' c (N + 13) ∧ w.grownBy w' (some c) := by
  go_enter Try.func87, Try.ntmps87
  go_wp2
  go_loopw [5, 6] (fun x k wr => ∃ (n : Int) (t : Nat), t ≤ 7 ∧ k = .int .i64 (t : Int) ∧ x = .int .i64 n ∧ In64 n ∧ Src wr c (N + t) ∧ w.grownBy wr (some c)) (fun _ k _ => (7 - intOf k).toNat)
  case atStart => exact ⟨0, 0, by omega, rfl, rfl, by unfold In64; omega, hs.mono (by omega), gb_refl _ _⟩
  case round =>
    obtain ⟨n, t, ht, rfl, rfl, hn, hsr, gr⟩ := hrel
    by_cases k : t < 7
    · go_wp2_with fail
      refine (next_any c (N + t) (by omega) _ hsr).mono ?_
      rintro e w1 ⟨x, rfl, x0, x1, hs1, g1⟩
      go_wp2
      go_roundw
      case rel => exact ⟨_, t + 1, by omega, by go_num, rfl, xor_in _ _, hs1.mono (by omega), gb_trans gr g1⟩
      case measure => first | (simp [intOf]; done) | (simp [intOf]; omega)
    · obtain ⟨t0, t1⟩ := tmod_between n m0
      have mz : (m + 1 == 0) = false := by simp; omega
      go_wp2_with fail
      refine (pick_any c (N + 7) (by omega) 5 (by unfold In64; omega) _ (hsr.mono (by omega))).mono ?_
      rintro e w1 ⟨x, rfl, x0, x1, x2, hs1, g1⟩
      have five : x = 0 ∨ x = 1 ∨ (2 ≤ x ∧ x ≤ 4) := by have := x1 (by omega); omega
      clear x0 x1 x2
      rcases five with rfl | rfl | ⟨x0, x1⟩
      · go_wp2_with fail
        refine (pick_any c (N + 7 + 2) (by omega) 40 (by unfold In64; omega) _ hs1).mono ?_
        rintro e w2 ⟨x, rfl, x0, x1, x2, hs2, g2⟩
        have x3 := x1 (by omega)
        clear x1
        go_wp2_with fail
        refine (one_any c (N + 7 + 2 + 2) (by omega) 2 (by unfold In64; omega) _ hs2).mono ?_
        rintro e w3 ⟨b, rfl, hs3, g3⟩
        have D := Lib.hid (fun k => div_between t0 t1 k)
        have L := Lib.hid (fun k => l05_tail (D.out k).1 (D.out k).2 m1 (hs3.mono (show N + 7 + 2 + 2 + 2 ≤ N + 13 by omega)) (gb_trans gr (gb_trans g1 (gb_trans g2 g3))))
        cases b
        · go_wp2
          go_ret
          exact (L.out _).1
        · go_wp2
          go_ret
          first | exact (L.out x.toNat).2.1 | exact (L.out x.toNat).2.2
      · have l1 := hs1.lt
        obtain ⟨q0, q1⟩ := half_between m0
        go_wp2_with fail
        refine (among_any c (N + 7 + 2) (by omega) (fun z => -m ≤ z ∧ z ≤ m) w1.heap.size 4 4 (by omega) (by omega) _ (hs1.kept (fun i hi => Below.heap_alloc _ _ _ (by omega))) (by omega) ?_).mono ?_
        · first | exact cells_ints w1 [0, 1, m, m.tdiv 2] _ _ (by simp; omega) | exact cells_ints w1 [0, 1, m, m / 2] _ _ (by simp; omega) | trace_state
        rintro e w2 ⟨x, rfl, ⟨y0, y1⟩, hs2, g2⟩
        go_wp2_with fail
        refine (one_any c (N + 7 + 2 + 2) (by omega) 2 (by unfold In64; omega) _ hs2).mono ?_
        rintro e w3 ⟨b, rfl, hs3, g3⟩
        have L := Lib.hid (l05_tail y0 y1 m1 (hs3.mono (show N + 7 + 2 + 2 + 2 ≤ N + 13 by omega)) (gb_trans gr (gb_trans (gb_alloc g1 _) (gb_trans g2 g3))))
        cases b
        · go_wp2
          go_ret
          exact L.out.1
        · go_wp2
          go_ret
          first | exact L.out.2.1 | exact L.out.2.2
      · have n0 : (x == 0) = false := by simp; omega
        have n1 : (x == 1) = false := by simp; omega
        clear x0 x1
        go_wp2_with fail
        refine (one_any c (N + 7 + 2) (by omega) 2 (by unfold In64; omega) _ hs1).mono ?_
        rintro e w3 ⟨b, rfl, hs3, g3⟩
        have L := Lib.hid (l05_tail t0 t1 m1 (hs3.mono (show N + 7 + 2 + 2 ≤ N + 13 by omega)) (gb_trans gr (gb_trans g1 g3)))
        cases b
        · go_wp2
          go_ret
          exact L.out.1
        · go_wp2
          go_ret
          first | exact L.out.2.1 | exact L.out.2.2
theorem E8Fix_any (a : Option Addr) (len cap : Nat) (m : Int) (m0 : 1 ≤ m) (m1 : m ≤ 4611686018427387904) (w : World) (h : BytesAt w w.heap.size a len) : Calls Try.prog 40 #[.slice a len cap, .int .i64 m] w fun e w' =>
    ∃ x, e = .returned (.int .i64 x) ∧ -m ≤ x ∧ x ≤ m ∧ Below w.heap.size w w' := by
  go_enter Try.func40, Try.ntmps40
  go_wp2_with fail
  refine (l00From_any a len cap _ h).mono ?_
  rintro e w1 ⟨rfl, hs1, hb1⟩
  go_wp2_with fail
  refine (l05Number_any w.heap.size 0 (by omega) m m0 m1 _ hs1).mono ?_
  rintro e w2 ⟨x, rfl, x0, x1, hs2, g2⟩
  go_wp2
  go_ret
  exact ⟨_, rfl, x0, x1, hb1.trans (gb_below g2 (Nat.le_refl _) hb1.size)⟩
end Go.Proofs.Ytnnanbaldcjfiaa
