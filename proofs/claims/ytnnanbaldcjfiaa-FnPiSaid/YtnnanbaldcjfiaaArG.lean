/- A contract of the program's arc cotangent, within its range. Conditions: as the lemma says. -/
import Derived.Test.YtnnanbaldcjfiaaArB
import Derived.Test.YtnnanbaldcjfiaaArF
import Derived.LoopN
import Derived.OwnWalk
import Derived.Handy
import Derived.Outline
namespace Go.Proofs.Ytnnanbaldcjfiaa
open Go.ChangeShapes Go.WideShapes Go.ChangeAt Go.RowKit
set_option linter.unusedVariables false
set_option maxRecDepth 100000
set_option linter.unusedSimpArgs false
set_option maxHeartbeats 1000000
theorem arcTermK (n : Int) (k bp bo bn : Nat) (h1 : bp ≠ bo) (h2 : bp ≠ bn) (h3 : bo ≠ bn) (n0 : 2 ≤ n) (n1 : n ≤ 1000) (hk : k ≤ 50) (w : World) (hp0 : Own w bp 0 (.int .i64 (arcP n k).1)) (hp1 : Own w bp 1 (.int .i64 (arcP n k).2)) (ho : Own w bo 0 (.int .i64 (2 * (k : Int) + 1))) (hn : w.cell? ⟨bn, 0, none⟩ = some (.int .i64 n)) :
    Calls Try.prog 119 #[.pointer (some ⟨bp, 0, none⟩), .pointer (some ⟨bo, 0, none⟩), .pointer (some ⟨bn, 0, none⟩)] w fun e w' =>
    e = .returned (.agg #[.int .i64 (arcT n k).1, .int .i64 (arcT n k).2]) ∧ Own w' bp 0 (.int .i64 (arcP n (k + 1)).1) ∧ Own w' bp 1 (.int .i64 (arcP n (k + 1)).2) ∧ Own w' bo 0 (.int .i64 (2 * ((k + 1 : Nat) : Int) + 1)) ∧ Two w w' bp bo := by
  refine (arcLit (arcP n k) (res_ok (arcP_res n k)) (2 * (k : Int) + 1) n bp bo bn h1 h2 h3 n0 n1 (by omega) (by omega) w hp0 hp1 ho hn).mono ?_
  rintro e w' ⟨rfl, a, b, c, d⟩
  exact ⟨rfl, a, b, by rw [show (2 * ((k + 1 : Nat) : Int) + 1) = 2 * (k : Int) + 1 + 2 by omega]; exact c, d⟩
theorem Two.own {w w' : World} {p q b o : Nat} {v : Value} (t : Two w w' p q) (n1 : b ≠ p) (n2 : b ≠ q) (h : Own w b o v) : Own w' b o v :=
  have lt := World.block_lt_of_cell? _ _ h.1
  ⟨(World.cell?_of_block (t.block b lt n1 n2)).trans h.1, (World.frozen?_of_block (t.block b lt n1 n2)).trans h.2⟩
theorem Two.cell {w w' : World} {p q b o : Nat} {v : Value} (t : Two w w' p q) (n1 : b ≠ p) (n2 : b ≠ q) (h : w.cell? ⟨b, o, none⟩ = some v) : w'.cell? ⟨b, o, none⟩ = some v :=
  (World.cell?_of_block (t.block b (World.block_lt_of_cell? _ _ h) n1 n2)).trans h
theorem Two.below {a w w' : World} {p q B : Nat} (t : Two w w' p q) (hb : Below B a w) (hp : B ≤ p) (hq : B ≤ q) (hs : B ≤ a.heap.size) : Below B a w' :=
  ⟨t.os.trans hb.os, t.tape.trans hb.tape, t.output.trans hb.output, Nat.le_trans hb.size t.size, fun i hi => (t.block i (by have := hb.size; omega) (by omega) (by omega)).trans (hb.block i hi)⟩
theorem grown_own {w w' : World} {r : Option Nat} {b o : Nat} {v : Value} (g : w.grownBy w' r) (n : r ≠ some b) (h : Own w b o v) : Own w' b o v :=
  have lt := World.block_lt_of_cell? _ _ h.1
  ⟨(World.cell?_of_block (g.block b lt (fun e => n e.symm))).trans h.1, (World.frozen?_of_block (g.block b lt (fun e => n e.symm))).trans h.2⟩
theorem grown_cell {w w' : World} {r : Option Nat} {b o : Nat} {v : Value} (g : w.grownBy w' r) (n : r ≠ some b) (h : w.cell? ⟨b, o, none⟩ = some v) : w'.cell? ⟨b, o, none⟩ = some v :=
  (World.cell?_of_block (g.block b (World.block_lt_of_cell? _ _ h) (fun e => n e.symm))).trans h
theorem row_far {w : World} {B : Nat} {e : TypeId} {size n : Nat} {v : Value} {xs : List Value} (h : w.ownsRow B e size v n xs) {b : Nat} (hb : b < B) : v.ownBlock ≠ some b := by
  obtain ⟨_, ⟨rfl, _⟩ | ⟨g, cap, cur, rfl, h2, _⟩⟩ := h
  · simp [Value.ownBlock]
  · simp [Value.ownBlock]; omega
theorem arcIn (n : Int) (T : Nat) (n0 : 2 ≤ n) (n1 : n ≤ 1000) (t0 : 1 ≤ T) (t1 : T ≤ 40) (w : World) : Calls Try.prog 26 #[.int .i64 n, .int .i64 (T : Int)] w fun e w' =>
    e = .returned (.agg #[.int .i64 (arcS n T T).1, .int .i64 (arcS n T T).2]) ∧ Below w.heap.size w w' := by
  obtain ⟨i0, hi, hz0, hz1, hz2⟩ := info_parts infoIv
  go_enter Try.func26, Try.ntmps26
  go_wp2_with fail
  refine (arcTerms_any n (by unfold In64; omega) _).mono ?_
  rintro e w1 ⟨g, rfl, lg, P0, P1, O0, N0, ls, hb1⟩
  simp only [World.size_alloc] at lg N0
  have o_r0 : Own (w1) (w.heap.size) 0 (.int .i64 0) := ownJ; have r0 := o_r0.1; have f_r0 := o_r0.2; have o_r1 : Own (w1) (w.heap.size) 1 (.int .i64 0) := ownJ; have r1 := o_r1.1; have f_r1 := o_r1.2
  have k1 := hb1.size
  simp at k1
  go_wp2_with fail
  refine (arcTermK n 0 g (g + 1) (w.heap.size + 1) (by omega) (by omega) (by omega) n0 n1 (by omega) w1 P0 P1 O0 N0).mono ?_
  rintro e w2 ⟨rfl, P0, P1, O0, tw⟩
  have N2 := tw.cell (by omega) (by omega) N0
  have R0 := tw.own (by omega) (by omega) o_r0
  have R1 := tw.own (by omega) (by omega) o_r1
  have B2 : Below w.heap.size w w2 := tw.below (B := w.heap.size) (a := w) belB (by omega) (by omega) (Nat.le_refl _)
  have k2 := tw.size
  obtain ⟨R00, R01⟩ := id R0
  go_wp2_with fail
  go_loopw [6, 28] (fun v k wr => ∃ j : Nat, j ≤ T ∧ k = .int .i64 (j : Int) ∧ wr.ownsRow (g + 2) 23 2 v (j + 1) (cellsL (arcT n) (j + 1)) ∧ Own wr g 0 (.int .i64 (arcP n (j + 1)).1) ∧ Own wr g 1 (.int .i64 (arcP n (j + 1)).2) ∧ Own wr (g + 1) 0 (.int .i64 (2 * ((j + 1 : Nat) : Int) + 1)) ∧ wr.cell? ⟨w.heap.size + 1, 0, none⟩ = some (.int .i64 n) ∧ Own wr w.heap.size 0 (.int .i64 0) ∧ Own wr w.heap.size 1 (.int .i64 0) ∧ g + 2 ≤ wr.heap.size ∧ Below w.heap.size w wr) (fun _ k _ => ((T : Int) - intOf k).toNat)
  case atStart =>
    refine ⟨0, by omega, rfl, ⟨by rw [cellsL_length], .inr ⟨w2.heap.size, 1, #[.int .i64 (arcT n 0).1, .int .i64 (arcT n 0).2], rfl, by omega, ?_, by omega, by unfold maxLen; omega, rfl, ?_⟩⟩, own_alloc P0, own_alloc P1, own_alloc O0, cell_alloc N2, own_alloc R0, own_alloc R1, by simp; omega, belB⟩
    · show (w2.heap.push _)[w2.heap.size]? = _
      simp
    · rfl
  case round =>
    obtain ⟨j, hj, rfl, hown, P0, P1, O0, N0, R0, R1, hg2, hb⟩ := hrel
    have hsz := hb.size
    by_cases k : j < T
    · have k3 : (j : Int) < T := by omega
      go_wp2_with fail
      refine (arcTermK n (j + 1) g (g + 1) (w.heap.size + 1) (by omega) (by omega) (by omega) n0 n1 (by omega) wr P0 P1 O0 N0).mono ?_
      rintro e w3 ⟨rfl, P0', P1', O0', tw3⟩
      have own3 := owns_same (w1 := w3) hown (fun i hB hi => tw3.block i hi (by omega) (by omega))
      have N3 := tw3.cell (by omega) (by omega) N0
      have R03 := tw3.own (by omega) (by omega) R0
      have R13 := tw3.own (by omega) (by omega) R1
      have B3 : Below w.heap.size w w3 := tw3.below hb (by omega) (by omega) (Nat.le_refl _)
      have k4 := tw3.size
      have far := fun b (h : b < g + 2) => row_far own3 h
      have CS := Lib.hid (cellsL_succ (arcT n) (j + 1))
      clear hown P0 P1 O0 N0 R0 R1 hb tw3
      generalize arcT n (j + 1) = tt at *
      go_wp2_with (first
        | (at_builtin; refine wpList_append_own _ rfl _ _ 66 rfl (g + 2) 23 i0 (.agg #[.int .i64 0, .int .i64 0]) 2 16 Try.underlying66 hi hz0 hz1 hz2 rfl (by decide) _ _ _ rfl (own3.alloc _) ⟨w3.heap.size, 0, none⟩ 1 1 [.int .i64 tt.1, .int .i64 tt.2] rfl rfl ?c1 ?c2 ?c3 ?c4 ?c5 ?_))
      case c1 =>
        intro i u h
        match i, h with
        | 0, h => simp at h; subst h; simp [Addr.add, go_sem]
        | 1, h => simp at h; subst h; simp [Addr.add, go_sem]
      case c2 => intro u h; simp at h; rcases h with rfl | rfl <;> rfl
      case c3 => unfold maxLen; omega
      case c4 => omega
      case c5 => simp; omega
      · intro v' w4 hown4 hgrow _
        rw [← CS.out] at hown4
        have gs := hgrow.size
        simp at gs
        have a0 := grown_own hgrow (far g (by omega)) (own_alloc P0')
        have a1 := grown_own hgrow (far g (by omega)) (own_alloc P1')
        have a2 := grown_own hgrow (far (g + 1) (by omega)) (own_alloc O0')
        have a3 := grown_cell hgrow (far (w.heap.size + 1) (by omega)) (cell_alloc N3)
        have a4 := grown_own hgrow (far w.heap.size (by omega)) (own_alloc R03)
        have a5 := grown_own hgrow (far w.heap.size (by omega)) (own_alloc R13)
        have B4 : Below w.heap.size w w4 := ⟨hgrow.os.trans B3.os, hgrow.tape.trans B3.tape, hgrow.output.trans B3.output, by omega, fun i hi => (hgrow.block i (by simp; omega) (fun e => far i (by omega) e.symm)).trans ((Below.heap_alloc _ _ _ (by omega)).trans (B3.block i hi))⟩
        clear hgrow own3 far P0' P1' O0' N3 R03 R13 B3
        go_wp2
        go_roundw
        case rel => exact ⟨j + 1, by omega, by go_num, hown4, a0, a1, a2, a3, a4, a5, by omega, B4⟩
        case measure => first | (simp [intOf]; done) | (simp [intOf]; omega)
    · have e : j = T := by omega
      subst e
      obtain ⟨gb, cb, rfl⟩ := Joins.ownsRow_form hown (by omega)
      have hcb : j + 1 ≤ cb := by
        obtain ⟨_, ⟨h, _⟩ | ⟨g', cap, cur, h, _, _, h4, _⟩⟩ := id hown
        · cases h
        · simp at h; omega
      have hcs : ∀ i, i < j + 1 → wr.cell? ⟨gb, 2 * i, none⟩ = some (.int .i64 (arcT n i).1) ∧ wr.cell? ⟨gb, 2 * i + 1, none⟩ = some (.int .i64 (arcT n i).2) := fun i hi =>
        ⟨(hown.cellAt (2 * i) (by omega)).trans (cellsL_at (arcT n) (j + 1) i hi).1, (hown.cellAt (2 * i + 1) (by omega)).trans (cellsL_at (arcT n) (j + 1) i hi).2⟩
      have WR := Lib.hid (withRest_any (arcT n) gb j cb (by omega) hcb wr hcs)
      have EA := Lib.hid (alt_arc n j t0 j (Nat.le_refl _))
      clear hown hcs P0 P1 O0 N0 R00 R01
      go_wp2_with fail
      refine WR.out.mono ?_
      rintro e w5 ⟨g5, c5, rfl, hc5, hb5⟩
      have R05 := own_kept hb5 R0
      have R15 := own_kept hb5 R1
      go_wp2_with fail
      refine (altSum (resF (arcT n) j) g5 (j + 1) c5 (by omega) w5 hc5).mono ?_
      rintro e w6 ⟨rfl, hb6⟩
      rw [EA.out]
      obtain ⟨z0, z1⟩ := own_kept hb6 R05
      obtain ⟨z2, z3⟩ := own_kept hb6 R15
      clear hc5
      have k5 := hb5.size
      have k6 := hb6.size
      go_wp2
      exact bodyPost_ret (v := .agg #[.int .i64 (arcS n j j).1, .int .i64 (arcS n j j).2]) (by simp [results, Try.results26, go_sem, z0, z2]) rfl ⟨rfl, belB⟩
end Go.Proofs.Ytnnanbaldcjfiaa
