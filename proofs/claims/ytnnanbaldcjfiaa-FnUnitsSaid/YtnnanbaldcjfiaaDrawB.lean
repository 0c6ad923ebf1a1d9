/- Contracts of pick, one, among, l00From, l02Number. Conditions: as in DrawA. -/
import Derived.Test.YtnnanbaldcjfiaaDrawA
namespace Go.Proofs.Ytnnanbaldcjfiaa
open Go.ChangeShapes Go.WideShapes Go.ChangeAt Go.RowKit
set_option linter.unusedVariables false
set_option maxRecDepth 100000
set_option linter.unusedSimpArgs false
set_option maxHeartbeats 1000000

theorem gb_refl (w : World) (r : Option Nat) : w.grownBy w r := ⟨rfl, rfl, rfl, Nat.le_refl _, fun _ _ _ => rfl⟩
theorem gb_trans {a b c : World} {r : Option Nat} (h : a.grownBy b r) (k : b.grownBy c r) : a.grownBy c r :=
  ⟨k.os.trans h.os, k.tape.trans h.tape, k.output.trans h.output, Nat.le_trans h.size k.size, fun i hi hr => (k.block i (Nat.lt_of_lt_of_le hi h.size) hr).trans (h.block i hi hr)⟩
theorem gb_alloc {a b : World} {r : Option Nat} (h : a.grownBy b r) (o : Obj) : a.grownBy (b.alloc o) r :=
  ⟨h.os, h.tape, h.output, by simp; have := h.size; omega, fun i hi hr => (Below.heap_alloc b o i (Nat.lt_of_lt_of_le hi h.size)).trans (h.block i hi hr)⟩
theorem gb_cell {a b : World} {c d o : Nat} (h : a.grownBy b (some c)) (hd : d < a.heap.size) (hc : d ≠ c) : b.cell? ⟨d, o, none⟩ = a.cell? ⟨d, o, none⟩ :=
  World.cell?_of_block (h.block d hd (fun e => hc (by injection e)))
theorem gb_below {a b : World} {c B : Nat} (h : a.grownBy b (some c)) (hB : B ≤ c) (hs : B ≤ a.heap.size) : Below B a b :=
  ⟨h.os, h.tape, h.output, h.size, fun k hk => h.block k (by omega) (fun e => by injection e; omega)⟩
theorem mod_in {x n : Int} (x0 : 0 ≤ x) (n1 : 1 < n) : 0 ≤ x % n ∧ x % n < n ∧ x % n ≤ x := by
  have e := Int.emod_add_mul_ediv x n
  have q : 0 ≤ x / n := Int.ediv_nonneg x0 (by omega)
  have p : 0 ≤ n * (x / n) := Int.mul_nonneg (by omega) q
  exact ⟨Int.emod_nonneg _ (by omega), Int.emod_lt_of_pos _ (by omega), by omega⟩
theorem pick_any (c N : Nat) (hN : N ≤ 900000000) (n : Int) (hn : In64 n) (w : World) (hs : Src w c N) : Calls Try.prog 123 #[.pointer (some ⟨c, 0, none⟩), .int .i64 n] w fun e w' =>
    ∃ x, e = .returned (.int .i64 x) ∧ 0 ≤ x ∧ (1 ≤ n → x < n) ∧ x ≤ 65535 ∧ Src w' c (N + 2) ∧ w.grownBy w' (some c) := by
  by_cases k : n ≤ 1
  · go_enter Try.func123, Try.ntmps123
    go_wp2
    go_ret
    exact ⟨_, rfl, by omega, by omega, by omega, hs.mono (by omega), gb_refl _ _⟩
  · have nz : (n == 0) = false := by simp; omega
    by_cases l : 200 < n
    · go_enter Try.func123, Try.ntmps123
      go_wp2_with fail
      refine (next_any c N (by omega) _ hs).mono ?_
      rintro e w1 ⟨x, rfl, x0, x1, hs1, g1⟩
      go_wp2_with fail
      refine (next_any c (N + 1) (by omega) _ hs1).mono ?_
      rintro e w2 ⟨y, rfl, y0, y1, hs2, g2⟩
      go_wp2
      go_ret
      obtain ⟨m0, m1, m2⟩ := mod_in (x := x * 256 + y) (by omega) k
      exact ⟨_, rfl, m0, fun _ => m1, by omega, hs2, gb_trans g1 g2⟩
    · go_enter Try.func123, Try.ntmps123
      go_wp2_with fail
      refine (next_any c N (by omega) _ hs).mono ?_
      rintro e w1 ⟨x, rfl, x0, x1, hs1, g1⟩
      go_wp2
      go_ret
      obtain ⟨m0, m1, m2⟩ := mod_in x0 k
      exact ⟨_, rfl, m0, fun _ => m1, by omega, hs1.mono (by omega), g1⟩
theorem one_any (c N : Nat) (hN : N ≤ 900000000) (n : Int) (hn : In64 n) (w : World) (hs : Src w c N) : Calls Try.prog 125 #[.pointer (some ⟨c, 0, none⟩), .int .i64 n] w fun e w' =>
    ∃ x, e = .returned (.bool x) ∧ Src w' c (N + 2) ∧ w.grownBy w' (some c) := by
  go_enter Try.func125, Try.ntmps125
  go_wp2_with fail
  refine (pick_any c N (by omega) n hn _ hs).mono ?_
  rintro e w1 ⟨x, rfl, x0, x1, x2, hs1, g1⟩
  go_wp2
  go_ret
  exact ⟨_, rfl, hs1, g1⟩
theorem l00From_any (a : Option Addr) (len cap : Nat) (w : World) (h : BytesAt w w.heap.size a len) : Calls Try.prog 86 #[.slice a len cap] w fun e w' =>
    e = .returned (.pointer (some ⟨w.heap.size, 0, none⟩)) ∧ Src w' w.heap.size 0 ∧ Below w.heap.size w w' := by
  go_enter Try.func86, Try.ntmps86
  go_wp2
  go_ret
  refine ⟨rfl, ⟨a, len, cap, 0, 0, ⟨?_, ?_, by unfold InU; omega⟩, by omega⟩, belB⟩
  · exact (show (w.heap.push _)[w.heap.size]? = _ by simp)
  · exact h.kept (fun i hi => Below.heap_alloc _ _ _ hi)
theorem among_any (c N : Nat) (hN : N ≤ 900000000) (p : Int → Prop) (d len cap : Nat) (hl : 1 ≤ len) (hm : len ≤ 65535) (w : World) (hs : Src w c N) (hd : d ≠ c)
    (hc : ∀ j, j < len → ∃ x, w.cell? ⟨d, j, none⟩ = some (.int .i64 x) ∧ p x) : Calls Try.prog 124 #[.pointer (some ⟨c, 0, none⟩), .slice (some ⟨d, 0, none⟩) len cap] w fun e w' =>
    ∃ x, e = .returned (.int .i64 x) ∧ p x ∧ Src w' c (N + 2) ∧ w.grownBy w' (some c) := by
  have dlt : d < w.heap.size := by obtain ⟨x, h, _⟩ := hc 0 (by omega); exact World.block_lt_of_cell? _ _ h
  go_enter Try.func124, Try.ntmps124
  go_wp2_with fail
  refine (pick_any c N (by omega) (len : Int) (by unfold In64; omega) _ hs).mono ?_
  rintro e w1 ⟨x, rfl, x0, x1, x2, hs1, g1⟩
  obtain ⟨k, rfl⟩ : ∃ k : Nat, x = k := ⟨x.toNat, by omega⟩
  obtain ⟨y, hy, py⟩ := hc k (by omega)
  have hk : (k : Int) < len := x1 (by omega)
  have hy1 := (gb_cell (o := k) g1 dlt hd).trans hy
  clear x1 hc
  go_wp2
  go_ret
  exact ⟨_, rfl, py, hs1, g1⟩
theorem xor_in (a b : Int) : In64 (bits .xor .i64 a b) := by
  unfold bits
  have := in64_wrap
  simp only [IntKind.wrap_i64]
  unfold In64
  omega
theorem cells_ints (w : World) (zs : List Int) (T : TypeId) (p : Int → Prop) (hp : ∀ z ∈ zs, p z) (j : Nat) (hj : j < zs.length) :
    ∃ x, (w.alloc (.cells (zs.map (Value.int .i64)).toArray T)).cell? ⟨w.heap.size, j, none⟩ = some (.int .i64 x) ∧ p x :=
  have o : (w.alloc (.cells (zs.map (Value.int .i64)).toArray T)).heap[w.heap.size]? = some (.cells (zs.map (Value.int .i64)).toArray T) := (show (w.heap.push _)[w.heap.size]? = _ by simp)
  ⟨zs[j], by unfold World.cell?; simp only [o]; simp, hp _ (List.getElem_mem hj)⟩
theorem shr_64 {n : Int} (hn : In64 n) (k : Nat) : In64 (n / 2 ^ k) := by
  have p : (0 : Int) < 2 ^ k := pow_pos' k
  have e := Int.emod_add_mul_ediv n (2 ^ k)
  have r0 := Int.emod_nonneg n (show (2 : Int) ^ k ≠ 0 by omega)
  unfold In64 at *
  refine ⟨?_, ?_⟩
  · apply Int.le_ediv_of_mul_le p
    have : (-9223372036854775808 : Int) * 2 ^ k ≤ -9223372036854775808 * 1 := Int.mul_le_mul_of_nonpos_left (by omega) (by omega)
    omega
  · apply Int.ediv_le_of_le_mul p
    have : (9223372036854775807 : Int) * 1 ≤ 9223372036854775807 * 2 ^ k := Int.mul_le_mul_of_nonneg_left (by omega) (by omega)
    omega
end Go.Proofs.Ytnnanbaldcjfiaa
