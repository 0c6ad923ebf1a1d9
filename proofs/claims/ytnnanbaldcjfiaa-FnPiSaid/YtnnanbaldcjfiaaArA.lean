/- A contract of the closure that hands out the terms of an arc cotangent. Conditions: as the lemma says. -/
import Derived.Test.YtnnanbaldcjfiaaAnyS
import Derived.Test.YtnnanbaldcjfiaaNumS
import Derived.Test.YtnnanbaldcjfiaaIvE
import Derived.Test.YtnnanbaldcjfiaaIvF
import Derived.Deep.RegionHeld3
import Derived.Deep.DeepCutAuto
import Derived.Outline
namespace Go.Proofs.Ytnnanbaldcjfiaa
open Go.ChangeShapes Go.WideShapes Go.ChangeAt Go.RowKit
set_option linter.unusedVariables false
set_option maxRecDepth 100000
set_option linter.unusedSimpArgs false
set_option maxHeartbeats 1000000
theorem own_far' {w : World} {p : Addr} {u v : Value} {b o : Nat} (n : p.block ≠ b) (h : Own w b o v) : Own (w.setCell p u) b o v := ⟨cell_far n h.1, by simpa using h.2⟩
theorem own_put' {w : World} {u v : Value} {b o : Nat} (h : Own w b o v) : Own (w.setCell ⟨b, o, none⟩ u) b o u := ⟨World.cell?_setCell_same _ _ _ h.1, by simpa using h.2⟩
theorem own_next' {w : World} {u v : Value} {b o o' : Nat} (n : o' ≠ o) (h : Own w b o v) : Own (w.setCell ⟨b, o', none⟩ u) b o v := ⟨cell_next n h.1, by simpa using h.2⟩
theorem own_cell {w : World} {v : Value} {b o : Nat} (h : Own w b o v) : w.cell? ⟨b, o, none⟩ = some v := h.1
/-- All old blocks but two are kept. -/
structure Two (w w' : World) (p q : Nat) : Prop where
  os : w'.os = w.os
  tape : w'.tape = w.tape
  output : w'.output = w.output
  size : w.heap.size ≤ w'.heap.size
  block : ∀ i, i < w.heap.size → i ≠ p → i ≠ q → w'.heap[i]? = w.heap[i]?
/-- What holds as long as the power and the odd number have not been stored. -/
def ArcS (p : Iv) (o n : Int) (bp bo bn : Nat) (L : Array Bool) (u : World) : Prop :=
  (L.getD 8 true = false → u.cell? ⟨bp, 0, none⟩ = some (.int .i64 p.1) ∧ u.cell? ⟨bp, 1, none⟩ = some (.int .i64 p.2)) ∧ (L.getD 9 true = false → u.cell? ⟨bo, 0, none⟩ = some (.int .i64 o)) ∧ u.cell? ⟨bn, 0, none⟩ = some (.int .i64 n)
theorem ArcS.less {p : Iv} {o n : Int} {bp bo bn i : Nat} {L : Array Bool} {u : World} (h8 : i ≠ 8) (h9 : i ≠ 9) (h : ArcS p o n bp bo bn (L.setIfInBounds i true) u) : ArcS p o n bp bo bn L u := by
  unfold ArcS at h ⊢; rw [getD_set_ne true h8, getD_set_ne true h9] at h; exact h
theorem arcLit (p : Iv) (hp : Ok p) (o n : Int) (bp bo bn : Nat) (h1 : bp ≠ bo) (h2 : bp ≠ bn) (h3 : bo ≠ bn) (n0 : 2 ≤ n) (n1 : n ≤ 1000) (o0 : 1 ≤ o) (o1 : o ≤ 101) (w : World) (hp0 : Own w bp 0 (.int .i64 p.1)) (hp1 : Own w bp 1 (.int .i64 p.2)) (ho : Own w bo 0 (.int .i64 o)) (hn : w.cell? ⟨bn, 0, none⟩ = some (.int .i64 n)) : Calls Try.prog 119 #[.pointer (some ⟨bp, 0, none⟩), .pointer (some ⟨bo, 0, none⟩), .pointer (some ⟨bn, 0, none⟩)] w fun e w' =>
    e = .returned (.agg #[.int .i64 (divI p (intI o)).1, .int .i64 (divI p (intI o)).2]) ∧ Own w' bp 0 (.int .i64 (divI p (intI (n * n))).1) ∧ Own w' bp 1 (.int .i64 (divI p (intI (n * n))).2) ∧ Own w' bo 0 (.int .i64 (o + 2)) ∧ Two w w' bp bo := by
  obtain ⟨⟨p0, p1⟩, ⟨p2, p3⟩⟩ := And.intro hp0 hp1
  obtain ⟨o0, o1⟩ := id ho
  have lp : bp < w.heap.size := World.block_lt_of_cell? _ _ p0
  have lo : bo < w.heap.size := World.block_lt_of_cell? _ _ o0
  have ln : bn < w.heap.size := World.block_lt_of_cell? _ _ hn
  have I := Lib.hid (fun w => Integer_any o (by unfold In64; omega) w)
  have D := Lib.hid (fun w => DivI_any p (intI o) hp (int_ok _) w)
  have NN : IntKind.i64.wrap (n * n) = n * n := by
    have h : n * n ≤ 1000 * 1000 := Int.mul_le_mul n1 n1 (by omega) (by omega)
    have h' : 0 ≤ n * n := Int.mul_nonneg (by omega) (by omega)
    rw [IntKind.wrap_i64]; omega
  have WO : IntKind.i64.wrap (o + 2) = o + 2 := by rw [IntKind.wrap_i64]; omega
  have NI : In64 (n * n) := by
    have h : n * n ≤ 1000 * 1000 := Int.mul_le_mul n1 n1 (by omega) (by omega)
    have h' : 0 ≤ n * n := Int.mul_nonneg (by omega) (by omega)
    unfold In64; omega
  have IN := Lib.hid (fun w => Integer_any (n * n) NI w)
  have DN := Lib.hid (fun w => DivI_any p (intI (n * n)) hp (int_ok _) w)
  generalize divI p (intI (n * n)) = d2 at *
  generalize intI (n * n) = i2 at *
  generalize divI p (intI o) = d at *
  generalize intI o = io at *
  go_enter Try.func119, Try.ntmps119
  go_upto_region 1 with fail
  go_cut [4] (fun s4 wx => ∃ g : Nat, s4 = .pointer (some ⟨g, 0, none⟩) ∧ wx.cell? ⟨g, 0, none⟩ = some (.int .i64 d.1) ∧ wx.cell? ⟨g, 1, none⟩ = some (.int .i64 d.2) ∧ w.heap.size < g ∧ Own wx w.heap.size 0 (.int .i64 0) ∧ Own wx w.heap.size 1 (.int .i64 0) ∧ Below w.heap.size w wx)
  case first =>
    obtain ⟨hlt2, hlt3, hlt4, hlt5, hlt6, hlt7, hlt8, hlt9, hlt10, hlt11⟩ := below_add; go_region_held3 (fun w' => w'.cell? ⟨bp, 0, none⟩ = some (.int .i64 p.1) ∧ w'.cell? ⟨bp, 1, none⟩ = some (.int .i64 p.2) ∧ w'.cell? ⟨bo, 0, none⟩ = some (.int .i64 o)) (first | (with_reducible exact ((And.imp (cell_kept (by assumption)) (And.imp (cell_kept (by assumption)) (cell_kept (by assumption)))) (by assumption))) | (with_reducible exact ((And.imp (cell_alloc) (And.imp (cell_alloc) (cell_alloc))) (by assumption))) | (with_reducible exact ((And.imp (fun h => cell_far (by first | (simp; done) | (simp; omega) | (dsimp only; omega)) (cell_far (by first | (simp; done) | (simp; omega) | (dsimp only; omega)) h)) (And.imp (fun h => cell_far (by first | (simp; done) | (simp; omega) | (dsimp only; omega)) (cell_far (by first | (simp; done) | (simp; omega) | (dsimp only; omega)) h)) (fun h => cell_far (by first | (simp; done) | (simp; omega) | (dsimp only; omega)) (cell_far (by first | (simp; done) | (simp; omega) | (dsimp only; omega)) h)))) (by assumption))) | (refine ⟨?_, ?_, ?_⟩ <;> repeat (first | (with_reducible assumption) | (with_reducible refine cell_far (by first | (simp; done) | (simp; omega) | (dsimp only; omega)) ?_) | (with_reducible refine cell_drew ?_) | (with_reducible refine cell_drewN ?_) | (with_reducible refine cell_kept (by assumption) ?_) | (simp [go_sem]; done) | (with_reducible refine cell_alloc ?_))) | (simp [go_sem, *]; done)) (first | (go_at_call 60; refine (I.out _).mono ?_; rintro e w1 ⟨rfl, hb⟩; have hs : _ ≤ w1.heap.size := hb.size; (try simp at hs); obtain ⟨hc, hf, hl, hn, hm⟩ := behind hb) | (go_at_call 22; refine (D.out _).mono ?_; rintro e w1 ⟨rfl, hb⟩; have hs : _ ≤ w1.heap.size := hb.size; (try simp at hs); obtain ⟨hc, hf, hl, hn, hm⟩ := behind hb))
    all_goals (go_wp2_with fail; go_meet)
    · have o_j0 : Own (w1) (w.heap.size) 0 (.int .i64 0) := ownJ; have j0 := o_j0.1; have f_j0 := o_j0.2; have o_j1 : Own (w1) (w.heap.size) 1 (.int .i64 0) := ownJ; have j1 := o_j1.1; have f_j1 := o_j1.2
      have lz := World.block_lt_of_cell? _ _ j0
      exact ⟨_, rfl, by simp [go_sem], by simp [go_sem], lz, own_alloc o_j0, own_alloc o_j1, belB⟩
    · have o_j0 : Own (w1) (w.heap.size) 0 (.int .i64 0) := ownJ; have j0 := o_j0.1; have f_j0 := o_j0.2; have o_j1 : Own (w1) (w.heap.size) 1 (.int .i64 0) := ownJ; have j1 := o_j1.1; have f_j1 := o_j1.2
      refine ⟨_, rfl, own_cell (own_next' (by decide) (own_put' (v := .int .i64 0) ?_)), own_cell (own_put' (v := .int .i64 0) (own_next' (by decide) ?_)), ?_, own_far' ?_ (own_far' ?_ o_j0), own_far' ?_ (own_far' ?_ o_j1), belB⟩
      · repeat (first | (with_reducible assumption) | (with_reducible refine own_drew ?_) | (with_reducible refine own_drewN ?_) | (with_reducible refine own_kept (by assumption) ?_) | (refine ⟨?_, ?_⟩ <;> simp [go_sem]; done) | (with_reducible refine own_alloc ?_))
      · repeat (first | (with_reducible assumption) | (with_reducible refine own_drew ?_) | (with_reducible refine own_drewN ?_) | (with_reducible refine own_kept (by assumption) ?_) | (refine ⟨?_, ?_⟩ <;> simp [go_sem]; done) | (with_reducible refine own_alloc ?_))
      all_goals first | omega | (simp; omega) | (simp; done)
    · have o_j0 : Own (w1) (w.heap.size) 0 (.int .i64 0) := ownJ; have j0 := o_j0.1; have f_j0 := o_j0.2; have o_j1 : Own (w1) (w.heap.size) 1 (.int .i64 0) := ownJ; have j1 := o_j1.1; have f_j1 := o_j1.2
      refine ⟨_, rfl, own_cell (own_next' (by decide) (own_put' (v := .int .i64 0) ?_)), own_cell (own_put' (v := .int .i64 0) (own_next' (by decide) ?_)), ?_, own_far' ?_ (own_far' ?_ o_j0), own_far' ?_ (own_far' ?_ o_j1), belB⟩
      · repeat (first | (with_reducible assumption) | (with_reducible refine own_drew ?_) | (with_reducible refine own_drewN ?_) | (with_reducible refine own_kept (by assumption) ?_) | (refine ⟨?_, ?_⟩ <;> simp [go_sem]; done) | (with_reducible refine own_alloc ?_))
      · repeat (first | (with_reducible assumption) | (with_reducible refine own_drew ?_) | (with_reducible refine own_drewN ?_) | (with_reducible refine own_kept (by assumption) ?_) | (refine ⟨?_, ?_⟩ <;> simp [go_sem]; done) | (with_reducible refine own_alloc ?_))
      all_goals first | omega | (simp; omega) | (simp; done)
  case rest =>
    obtain ⟨g, rfl, g0, g1, lg, r0, r1, hb⟩ := hcut
    have c0 : wc.cell? ⟨bp, 0, none⟩ = some (.int .i64 p.1) := cell_kept hb p0
    have c2 : wc.cell? ⟨bp, 1, none⟩ = some (.int .i64 p.2) := cell_kept hb p2
    have c4 : wc.cell? ⟨bo, 0, none⟩ = some (.int .i64 o) := cell_kept hb o0
    have c5 : wc.cell? ⟨bn, 0, none⟩ = some (.int .i64 n) := cell_kept hb hn
    go_wp2_with fail
    refine AnyS.region (S := ArcS p o n bp bo bn) (by kernel_rfl) (show AnyS _ _ _ _ _ 10 _ _ _ from ?_)
    refine AnyS.take (i := 0) (v := .agg #[.int .i64 p.1, .int .i64 p.2]) (T := fun u => u.cell? ⟨bp, 0, none⟩ = some (.int .i64 p.1) ∧ u.cell? ⟨bp, 1, none⟩ = some (.int .i64 p.2)) [5, 8, 9] rfl (by kernel_rfl) (by kernel_rfl) (by kernel_rfl) (by kernel_rfl) (by kernel_rfl) (fun _ _ _ h => h) (fun L u q s => s.1 (q 8 (by simp))) (fun L u s => ArcS.less (by decide) (by decide) s) (Or.inl ⟨by rfl, ?_⟩) ⟨fun _ => ⟨c0, c2⟩, fun _ => c4, c5⟩ ?_
    · intro u hu
      obtain ⟨u0, u1⟩ := hu
      go_simp
    try simp only [Act.put, List.setIfInBounds_toArray, List.set_cons_zero, List.set_cons_succ]
    refine AnyS.take (i := 1) (v := .int .i64 n) (T := fun u => u.cell? ⟨bn, 0, none⟩ = some (.int .i64 n)) [] rfl (by kernel_rfl) (by kernel_rfl) (by kernel_rfl) (by kernel_rfl) (by kernel_rfl) (fun _ _ _ h => h) (fun L u q s => s.2.2) (fun L u s => ArcS.less (by decide) (by decide) s) (Or.inl ⟨by rfl, ?_⟩) ⟨fun _ => ⟨c0, c2⟩, fun _ => c4, c5⟩ ?_
    · intro u hu
      skip
      go_simp
    try simp only [Act.put, List.setIfInBounds_toArray, List.set_cons_zero, List.set_cons_succ]
    refine AnyS.take (i := 2) (v := .int .i64 n) (T := fun u => u.cell? ⟨bn, 0, none⟩ = some (.int .i64 n)) [] rfl (by kernel_rfl) (by kernel_rfl) (by kernel_rfl) (by kernel_rfl) (by kernel_rfl) (fun _ _ _ h => h) (fun L u q s => s.2.2) (fun L u s => ArcS.less (by decide) (by decide) s) (Or.inl ⟨by rfl, ?_⟩) ⟨fun _ => ⟨c0, c2⟩, fun _ => c4, c5⟩ ?_
    · intro u hu
      skip
      go_simp
    try simp only [Act.put, List.setIfInBounds_toArray, List.set_cons_zero, List.set_cons_succ]
    refine AnyS.take (i := 3) (v := .int .i64 (n * n)) (T := fun u => True) [] rfl (by kernel_rfl) (by kernel_rfl) (by kernel_rfl) (by kernel_rfl) (by kernel_rfl) (fun _ _ _ h => h) (fun L u q s => trivial) (fun L u s => ArcS.less (by decide) (by decide) s) (Or.inl ⟨by rfl, ?_⟩) ⟨fun _ => ⟨c0, c2⟩, fun _ => c4, c5⟩ ?_
    · intro u hu
      clear hu
      go_simp
    try simp only [Act.put, List.setIfInBounds_toArray, List.set_cons_zero, List.set_cons_succ]
    refine AnyS.take (i := 6) (v := .int .i64 o) (T := fun u => u.cell? ⟨bo, 0, none⟩ = some (.int .i64 o)) [7, 9] rfl (by kernel_rfl) (by kernel_rfl) (by kernel_rfl) (by kernel_rfl) (by kernel_rfl) (fun _ _ _ h => h) (fun L u q s => s.2.1 (q 9 (by simp))) (fun L u s => ArcS.less (by decide) (by decide) s) (Or.inl ⟨by rfl, ?_⟩) ⟨fun _ => ⟨c0, c2⟩, fun _ => c4, c5⟩ ?_
    · intro u hu
      skip
      go_simp
    try simp only [Act.put, List.setIfInBounds_toArray, List.set_cons_zero, List.set_cons_succ]
    refine AnyS.take (i := 7) (v := .int .i64 (o + 2)) (T := fun u => True) [] rfl (by kernel_rfl) (by kernel_rfl) (by kernel_rfl) (by kernel_rfl) (by kernel_rfl) (fun _ _ _ h => h) (fun L u q s => trivial) (fun L u s => ArcS.less (by decide) (by decide) s) (Or.inl ⟨by rfl, ?_⟩) ⟨fun _ => ⟨c0, c2⟩, fun _ => c4, c5⟩ ?_
    · intro u hu
      clear hu
      go_simp
    try simp only [Act.put, List.setIfInBounds_toArray, List.set_cons_zero, List.set_cons_succ]
    refine AnyS.one (i := 4) (by kernel_rfl) (AnyS.comes rfl (fun K hK => ?_))
    go_simp
    refine (IN.out _).mono ?_
    rintro e w4 ⟨rfl, hb4⟩
    have hs4 : _ ≤ w4.heap.size := hb4.size
    try simp at hs4
    have c0_4 : w4.cell? ⟨bp, 0, none⟩ = some (.int .i64 p.1) := cell_kept hb4 c0
    have c2_4 : w4.cell? ⟨bp, 1, none⟩ = some (.int .i64 p.2) := cell_kept hb4 c2
    have c4_4 : w4.cell? ⟨bo, 0, none⟩ = some (.int .i64 o) := cell_kept hb4 c4
    have c5_4 : w4.cell? ⟨bn, 0, none⟩ = some (.int .i64 n) := cell_kept hb4 c5
    go_wp2_with fail
    refine hK.out _ _ ⟨fun _ => ⟨c0_4, c2_4⟩, fun _ => c4_4, c5_4⟩ ?_
    clear hK K
    try simp only [Act.put, List.setIfInBounds_toArray, List.set_cons_zero, List.set_cons_succ]
    refine AnyS.one (i := 5) (by kernel_rfl) (AnyS.comes rfl (fun K hK => ?_))
    go_simp
    refine (DN.out _).mono ?_
    rintro e w5 ⟨rfl, hb5⟩
    have hs5 : _ ≤ w5.heap.size := hb5.size
    try simp at hs5
    have c0_5 : w5.cell? ⟨bp, 0, none⟩ = some (.int .i64 p.1) := cell_kept hb5 c0_4
    have c2_5 : w5.cell? ⟨bp, 1, none⟩ = some (.int .i64 p.2) := cell_kept hb5 c2_4
    have c4_5 : w5.cell? ⟨bo, 0, none⟩ = some (.int .i64 o) := cell_kept hb5 c4_4
    have c5_5 : w5.cell? ⟨bn, 0, none⟩ = some (.int .i64 n) := cell_kept hb5 c5_4
    go_wp2_with fail
    refine hK.out _ _ ⟨fun _ => ⟨c0_5, c2_5⟩, fun _ => c4_5, c5_5⟩ ?_
    clear hK K
    try simp only [Act.put, List.setIfInBounds_toArray, List.set_cons_zero, List.set_cons_succ]
    have P0 : Own w5 bp 0 (.int .i64 p.1) := own_kept hb5 (own_kept hb4 (own_drew (own_kept hb hp0)))
    have P1 : Own w5 bp 1 (.int .i64 p.2) := own_kept hb5 (own_kept hb4 (own_drew (own_kept hb hp1)))
    have O0 : Own w5 bo 0 (.int .i64 o) := own_kept hb5 (own_kept hb4 (own_drew (own_kept hb ho)))
    have f0 := P0.2
    have f1 := P1.2
    have f2 := O0.2
    refine AnyS.one (i := 8) (by kernel_rfl) (AnyS.comes rfl (fun K hK => ?_))
    go_simp
    refine hK.out _ _ ⟨fun h => absurd h (by decide), fun _ => cell_far h1 (cell_far h1 c4_5), cell_far h2 (cell_far h2 c5_5)⟩ ?_
    clear hK K
    try simp only [Act.put, List.setIfInBounds_toArray, List.set_cons_zero, List.set_cons_succ]
    have O1 : Own ((w5.setCell ⟨bp, 0, none⟩ (.int .i64 d2.1)).setCell ⟨bp, 1, none⟩ (.int .i64 d2.2)) bo 0 (.int .i64 o) := own_far' h1 (own_far' h1 O0)
    have f3 := O1.1
    have f4 := O1.2
    refine AnyS.one (i := 9) (by kernel_rfl) (AnyS.comes rfl (fun K hK => ?_))
    go_simp
    refine hK.out _ _ ⟨fun h => absurd h (by decide), fun h => absurd h (by decide), cell_far h3 (cell_far h2 (cell_far h2 c5_5))⟩ ?_
    clear hK K
    try simp only [Act.put, List.setIfInBounds_toArray, List.set_cons_zero, List.set_cons_succ]
    refine AnyS.done (by kernel_rfl) ?_ _
    obtain ⟨u, hu⟩ : ∃ u, u = ((w5.setCell ⟨bp, 0, none⟩ (.int .i64 d2.1)).setCell ⟨bp, 1, none⟩ (.int .i64 d2.2)).setCell ⟨bo, 0, none⟩ (.int .i64 (o + 2)) := ⟨_, rfl⟩
    rw [← hu]
    have ng : bp ≠ g := by omega
    have mg : bo ≠ g := by omega
    have nr : bp ≠ w.heap.size := by omega
    have mr : bo ≠ w.heap.size := by omega
    have G0 : u.cell? ⟨g, 0, none⟩ = some (.int .i64 d.1) := by rw [hu]; exact cell_far mg (cell_far ng (cell_far ng (cell_kept hb5 (cell_kept hb4 (cell_drew g0)))))
    have G1 : u.cell? ⟨g, 1, none⟩ = some (.int .i64 d.2) := by rw [hu]; exact cell_far mg (cell_far ng (cell_far ng (cell_kept hb5 (cell_kept hb4 (cell_drew g1)))))
    have R0 : Own u w.heap.size 0 (.int .i64 0) := by rw [hu]; exact own_far' mr (own_far' nr (own_far' nr (own_kept hb5 (own_kept hb4 (own_drew r0)))))
    have R1 : Own u w.heap.size 1 (.int .i64 0) := by rw [hu]; exact own_far' mr (own_far' nr (own_far' nr (own_kept hb5 (own_kept hb4 (own_drew r1)))))
    have A0 : Own u bp 0 (.int .i64 d2.1) := by rw [hu]; exact own_far' h1.symm (own_next' (by decide) (own_put' P0))
    have A1 : Own u bp 1 (.int .i64 d2.2) := by rw [hu]; exact own_far' h1.symm (own_put' (own_next' (by decide) P1))
    have B0 : Own u bo 0 (.int .i64 (o + 2)) := by rw [hu]; exact own_put' O1
    have TW : Two w u bp bo := by
      have k1 := hb.size
      have k4 := hb4.size
      have k5 := hb5.size
      refine ⟨?_, ?_, ?_, ?_, fun i hi ip io => ?_⟩
      · rw [hu]; exact hb5.os.trans (hb4.os.trans hb.os)
      · rw [hu]; exact hb5.tape.trans (hb4.tape.trans hb.tape)
      · rw [hu]; exact hb5.output.trans (hb4.output.trans hb.output)
      · rw [hu]; simp; simp at k4; omega
      · rw [hu, Below.heap_setCell _ _ _ _ io, Below.heap_setCell _ _ _ _ ip, Below.heap_setCell _ _ _ _ ip]
        exact (hb5.block i (by simp at k4; omega)).trans ((hb4.block i (by simp; omega)).trans (hb.block i hi))
    have lu : w.heap.size < u.heap.size := World.block_lt_of_cell? _ _ R0.1
    obtain ⟨R2, R3⟩ := id R0
    obtain ⟨R4, R5⟩ := id R1
    clear hu P0 P1 O0 O1 f0 f1 f2 f3 f4
    go_wp2
    exact bodyPost_ret (v := .agg #[.int .i64 d.1, .int .i64 d.2]) (by simp [results, Try.results119, go_sem, R2, R4]) rfl ⟨rfl, own_far' nr.symm (own_far' nr.symm A0), own_far' nr.symm (own_far' nr.symm A1), own_far' mr.symm (own_far' mr.symm B0), ⟨TW.os, TW.tape, TW.output, by simpa using TW.size, fun i hi ip io => by rw [Below.heap_setCell _ _ _ _ (Nat.ne_of_lt hi), Below.heap_setCell _ _ _ _ (Nat.ne_of_lt hi)]; exact TW.block i hi ip io⟩⟩
end Go.Proofs.Ytnnanbaldcjfiaa
