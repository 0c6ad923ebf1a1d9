/- Contracts of l02Draw, E8Number, E8Wide, d8At, d8Long. Conditions: as in DrawA. -/
import Derived.Test.YtnnanbaldcjfiaaDrawB
import Derived.Test.YtnnanbaldcjfiaaWideZa
namespace Go.Proofs.Ytnnanbaldcjfiaa
open Go.ChangeShapes Go.WideShapes Go.ChangeAt Go.RowKit
set_option linter.unusedVariables false
set_option maxRecDepth 100000
set_option linter.unusedSimpArgs false
set_option maxHeartbeats 1000000

/-- A block of two cells that the call owns. -/
structure Own2 (w : World) (b : Nat) (x y : Value) : Prop where
  c0 : w.cell? ⟨b, 0, none⟩ = some x
  c1 : w.cell? ⟨b, 1, none⟩ = some y
  fr : ∀ o, w.frozen? ⟨b, o, none⟩ = false
theorem Own2.lt {w : World} {b : Nat} {x y : Value} (h : Own2 w b x y) : b < w.heap.size := World.block_lt_of_cell? _ _ h.c0
theorem Own2.gb {w w1 : World} {b c : Nat} {x y : Value} (h : Own2 w b x y) (g : w.grownBy w1 (some c)) (hb : b ≠ c) : Own2 w1 b x y :=
  ⟨(gb_cell g h.lt hb).trans h.c0, (gb_cell g h.lt hb).trans h.c1, fun o => (World.frozen?_of_block (g.block b h.lt (fun e => hb (by injection e)))).trans (h.fr o)⟩
theorem Own2.below {w w1 : World} {b B : Nat} {x y : Value} (h : Own2 w b x y) (g : Below B w w1) (hb : b < B) : Own2 w1 b x y :=
  ⟨(g.cell hb).trans h.c0, (g.cell hb).trans h.c1, fun o => (g.frozen hb).trans (h.fr o)⟩
theorem Own2.new (w : World) (x y : Value) (T : TypeId) : Own2 (w.alloc (.cells #[x, y] T)) w.heap.size x y :=
  have o : (w.alloc (.cells #[x, y] T)).heap[w.heap.size]? = some (.cells #[x, y] T) := (show (w.heap.push _)[w.heap.size]? = _ by simp)
  ⟨by unfold World.cell?; simp only [o]; rfl, by unfold World.cell?; simp only [o]; rfl, fun _ => by unfold World.frozen?; simp only [o]; simp⟩
theorem gb_set {a b : World} {r : Option Nat} (h : a.grownBy b r) {p : Addr} (hp : a.heap.size ≤ p.block) (u : Value) : a.grownBy (b.setCell p u) r :=
  ⟨h.os, h.tape, h.output, by simp [World.setCell]; exact h.size, fun i hi hr => (Below.heap_setCell b p u i (by omega)).trans (h.block i hi hr)⟩
theorem gb_then {a b d : World} {r : Option Nat} {B : Nat} (h : a.grownBy b r) (k : Below B b d) (hB : a.heap.size ≤ B) : a.grownBy d r :=
  ⟨k.os.trans h.os, k.tape.trans h.tape, k.output.trans h.output, Nat.le_trans h.size k.size, fun i hi hr => (k.block i (by omega)).trans (h.block i hi hr)⟩
theorem Src.set {w : World} {c N : Nat} (h : Src w c N) {p : Addr} (hp : c < p.block) (u : Value) : Src (w.setCell p u) c N :=
  h.kept (fun i hi => Below.heap_setCell w p u i (by omega))
theorem two_halves {x y : Int} (hx : In64 x) : ∃ v, hiW v = x ∧ loW v = loW y ∧ InW v := by
  have l := inU_lo y
  unfold InU at l
  obtain ⟨e1, e2⟩ := hl_val x (loW y) l.1 l.2
  exact ⟨_, e1, e2, by unfold In64 at hx; unfold InW B64; omega⟩
/-- What d8At gives: a number below n. -/
def d8In (n x : Int) : Prop := 0 ≤ x ∧ x ≤ 65535 ∧ (1 ≤ n → x < n)
theorem d8At_any (a : Option Addr) (len cap : Nat) (k : Nat) (hk : k ≤ 1000000) (n : Int) (hn : In64 n) (B : Nat) (w : World) (h : BytesAt w B a len) : Calls Try.prog 31 #[.slice a len cap, .int .i64 (k : Int), .int .i64 n] w fun e w' =>
    ∃ x, e = .returned (.int .i64 x) ∧ d8In n x ∧ w' = w := by
  have big := h.big
  by_cases n1 : n ≤ 1
  · go_enter Try.func31, Try.ntmps31
    go_wp2
    go_ret
    exact ⟨_, rfl, ⟨by omega, by omega, by omega⟩, rfl⟩
  · by_cases k1 : k < len
    · obtain ⟨b, off, z, ea, hb, hz, z0, z1⟩ := h.byte k k1
      subst ea
      have nz : (n == 0) = false := by simp; omega
      by_cases k2 : k + 1 < len
      · obtain ⟨b', off', y, ea', hb', hy, y0, y1⟩ := h.byte (k + 1) k2
        simp at ea'
        obtain ⟨rfl, rfl⟩ := ea'
        clear h
        go_enter Try.func31, Try.ntmps31
        go_wp2
        go_ret
        obtain ⟨m0, m1, m2⟩ := mod_in (x := 256 * z + y) (by omega) n1
        exact ⟨_, rfl, ⟨m0, by omega, fun _ => m1⟩, rfl⟩
      · clear h
        go_enter Try.func31, Try.ntmps31
        go_wp2
        go_ret
        obtain ⟨m0, m1, m2⟩ := mod_in z0 n1
        exact ⟨_, rfl, ⟨m0, by omega, fun _ => m1⟩, rfl⟩
    · clear h
      go_enter Try.func31, Try.ntmps31
      go_wp2
      go_ret
      exact ⟨_, rfl, ⟨by omega, by omega, by omega⟩, rfl⟩
theorem d8Long_any (a a' : Option Addr) (len cap len' cap' : Nat) (hl : len ≤ 9223372036854775807) (hl' : len' ≤ 9223372036854775807) (w : World) : Calls Try.prog 39 #[.slice a len cap, .slice a' len' cap'] w fun e w' =>
    e = .returned (.bool (decide (1048576 < len ∨ 1048576 < len'))) ∧ w' = w := by
  by_cases h : 1048576 < len
  · go_enter Try.func39, Try.ntmps39
    go_wp2
    go_ret
    exact ⟨by simp, rfl⟩
  · by_cases h' : 1048576 < len'
    · go_enter Try.func39, Try.ntmps39
      go_wp2
      go_ret
      exact ⟨by simp [h'] <;> omega, rfl⟩
    · go_enter Try.func39, Try.ntmps39
      go_wp2
      go_ret
      exact ⟨by simp [h, h'] <;> omega, rfl⟩
end Go.Proofs.Ytnnanbaldcjfiaa
