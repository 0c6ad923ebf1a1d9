/- A contract of the sum of a series with alternating signs in the program. Conditions: as the lemma says. -/
import Derived.Test.YtnnanbaldcjfiaaArC
import Derived.Test.YtnnanbaldcjfiaaIvD
import Derived.Test.YtnnanbaldcjfiaaIvE
import Derived.LoopN
import Derived.Handy
import Derived.Outline
namespace Go.Proofs.Ytnnanbaldcjfiaa
open Go.ChangeShapes Go.WideShapes Go.ChangeAt Go.RowKit
set_option linter.unusedVariables false
set_option maxRecDepth 100000
set_option linter.unusedSimpArgs false
set_option maxHeartbeats 1000000
/-- The first term minus the second one, plus the third one, and so on. -/
def altF (xs : Nat → Iv) : Nat → Iv
  | 0 => intI 0
  | k + 1 => if k % 2 = 0 then addI (altF xs k) (xs k) else subI (altF xs k) (xs k)
theorem tmod_0 {j : Nat} (h : j % 2 = 0) : (j : Int).tmod 2 = 0 := by rw [Int.tmod_eq_emod_of_nonneg (by omega)]; omega
theorem tmod_1 {j : Nat} (h : ¬ j % 2 = 0) : (j : Int).tmod 2 = 1 := by rw [Int.tmod_eq_emod_of_nonneg (by omega)]; omega
theorem altSum (xs : Nat → Iv) (b len cap : Nat) (hl : len ≤ 100) (w : World) (hc : ∀ j, j < len → w.cell? ⟨b, 2 * j, none⟩ = some (.int .i64 (xs j).1) ∧ w.cell? ⟨b, 2 * j + 1, none⟩ = some (.int .i64 (xs j).2)) : Calls Try.prog 79 #[.slice (some ⟨b, 0, none⟩) len cap] w fun e w' =>
    e = .returned (.agg #[.int .i64 (altF xs len).1, .int .i64 (altF xs len).2]) ∧ Below w.heap.size w w' := by
  have I0 := Lib.hid (fun w => Integer_any 0 (by unfold In64; omega) w)
  have HC := Lib.hid hc
  have lb : 0 < len → b < w.heap.size := fun h => World.block_lt_of_cell? _ _ (hc 0 h).1
  clear hc
  go_enter Try.func79, Try.ntmps79
  go_wp2_with fail
  refine (I0.out _).mono ?_
  rintro e w1 ⟨rfl, hb1⟩
  have hs1 : _ ≤ w1.heap.size := hb1.size
  try simp at hs1
  have o_r10 : Own (w1) (w.heap.size) 0 (.int .i64 0) := ownJ; have r10 := o_r10.1; have f_r10 := o_r10.2; have o_r11 : Own (w1) (w.heap.size) 1 (.int .i64 0) := ownJ; have r11 := o_r11.1; have f_r11 := o_r11.2
  have lr := World.block_lt_of_cell? _ _ r10
  obtain ⟨g, hg⟩ : ∃ g, g = w1.heap.size := ⟨_, rfl⟩
  have HG := Lib.hid hg
  have lg : w.heap.size < g := by omega
  have bw : Below w.heap.size w w1 := belB
  go_wp2_with fail
  rw [← hg]
  clear hg
  go_loopw [9] (fun k wr => ∃ j : Nat, j ≤ len ∧ k = .int .i64 (j : Int) ∧ Own wr g 0 (.int .i64 (altF xs j).1) ∧ Own wr g 1 (.int .i64 (altF xs j).2) ∧ Own wr w.heap.size 0 (.int .i64 0) ∧ Own wr w.heap.size 1 (.int .i64 0) ∧ Below w.heap.size w wr) (fun k _ => ((len : Int) - intOf k).toNat)
  case atStart =>
    have hg := HG.out
    subst hg
    exact ⟨0, by omega, rfl, ⟨by simp [go_sem, altF], by simp [go_sem]⟩, ⟨by simp [go_sem, altF], by simp [go_sem]⟩, own_alloc o_r10, own_alloc o_r11, belB⟩
  case round =>
    obtain ⟨j, hj, rfl, s0, s1, r0, r1, hb⟩ := hrel
    clear bw hb1 hs1 o_r10 o_r11 r10 r11 f_r10 f_r11 lr
    have hsz := hb.size
    obtain ⟨cs0, fs0⟩ := id s0
    obtain ⟨cs1, fs1⟩ := id s1
    have lq : g < wr.heap.size := World.block_lt_of_cell? _ _ cs0
    by_cases k : j < len
    · have lbb := lb (by omega)
      have k1 : (j : Int) < len := by omega
      have x0 : wr.cell? ⟨b, j * 2, none⟩ = some (.int .i64 (xs j).1) := by rw [hb.cell lbb, Nat.mul_comm]; exact (HC.out j k).1
      have x1 : wr.cell? ⟨b, j * 2 + 1, none⟩ = some (.int .i64 (xs j).2) := by rw [hb.cell lbb, Nat.mul_comm]; exact (HC.out j k).2
      have SB := Lib.hid (fun w => SubI_any (altF xs j) (xs j) w)
      have AB := Lib.hid (fun w => AddI_any (altF xs j) (xs j) w)
      obtain ⟨ss, hss⟩ : ∃ x, x = altF xs (j + 1) := ⟨_, rfl⟩
      have HSS := Lib.hid hss
      have SS : ss = if j % 2 = 0 then addI (altF xs j) (xs j) else subI (altF xs j) (xs j) := by rw [hss]; rfl
      clear hss
      generalize altF xs j = s at *
      generalize xs j = x at *
      by_cases par : j % 2 = 0
      · rw [if_pos par] at SS
        rw [← SS] at AB
        clear SS
        have M := tmod_0 par
        go_wp2_with fail
        refine (AB.out _).mono ?_
        rintro e w20 ⟨rfl, hb20⟩
        have hs20 : _ ≤ w20.heap.size := hb20.size
        try simp at hs20
        have zS0 : Own w20 g 0 (.int .i64 s.1) := own_kept hb20 (own_alloc s0)
        have zS1 : Own w20 g 1 (.int .i64 s.2) := own_kept hb20 (own_alloc s1)
        have zR0 : Own w20 w.heap.size 0 (.int .i64 0) := own_kept hb20 (own_alloc r0)
        have zR1 : Own w20 w.heap.size 1 (.int .i64 0) := own_kept hb20 (own_alloc r1)
        obtain ⟨dS0, eS0⟩ := id zS0
        obtain ⟨dS1, eS1⟩ := id zS1
        go_wp2
        go_roundw
        case rel => exact ⟨j + 1, by omega, by go_num, by rw [← HSS.out]; exact own_next' (by decide) (own_put' zS0), by rw [← HSS.out]; exact own_put' (own_next' (by decide) zS1), own_far' (by dsimp only; omega) (own_far' (by dsimp only; omega) zR0), own_far' (by dsimp only; omega) (own_far' (by dsimp only; omega) zR1), belB⟩
        case measure => first | (simp [intOf]; done) | (simp [intOf]; omega)
      · rw [if_neg par] at SS
        rw [← SS] at SB
        clear SS
        have M := tmod_1 par
        go_wp2_with fail
        refine (SB.out _).mono ?_
        rintro e w20 ⟨rfl, hb20⟩
        have hs20 : _ ≤ w20.heap.size := hb20.size
        try simp at hs20
        have zS0 : Own w20 g 0 (.int .i64 s.1) := own_kept hb20 (own_alloc s0)
        have zS1 : Own w20 g 1 (.int .i64 s.2) := own_kept hb20 (own_alloc s1)
        have zR0 : Own w20 w.heap.size 0 (.int .i64 0) := own_kept hb20 (own_alloc r0)
        have zR1 : Own w20 w.heap.size 1 (.int .i64 0) := own_kept hb20 (own_alloc r1)
        obtain ⟨dS0, eS0⟩ := id zS0
        obtain ⟨dS1, eS1⟩ := id zS1
        go_wp2
        go_roundw
        case rel => exact ⟨j + 1, by omega, by go_num, by rw [← HSS.out]; exact own_next' (by decide) (own_put' zS0), by rw [← HSS.out]; exact own_put' (own_next' (by decide) zS1), own_far' (by dsimp only; omega) (own_far' (by dsimp only; omega) zR0), own_far' (by dsimp only; omega) (own_far' (by dsimp only; omega) zR1), belB⟩
        case measure => first | (simp [intOf]; done) | (simp [intOf]; omega)
    · have e : j = len := by omega
      subst e
      obtain ⟨cr0, fr0⟩ := id r0
      obtain ⟨cr1, fr1⟩ := id r1
      go_wp2
      exact bodyPost_ret (v := .agg #[.int .i64 (altF xs j).1, .int .i64 (altF xs j).2]) (by simp [results, Try.results79, go_sem, cr0, cr1]) rfl ⟨rfl, belB⟩
end Go.Proofs.Ytnnanbaldcjfiaa
