/- Contract of a function for the components of two vectors. Conditions: numbers are int64. -/
import Derived.Test.YtmikjgbojknlnaaVeA
import Derived.Test.YtmikjgbojknlnaaAnyS
import Derived.Deep.RegionHeld3
import Derived.Deep.DeepCutAuto
import Derived.Outline
namespace Go.Proofs.Ytmikjgbojknlnaa
open Go.ChangeShapes Go.WideShapes Go.ChangeAt Go.RowKit
set_option linter.unusedVariables false
set_option maxRecDepth 100000
set_option linter.unusedSimpArgs false
set_option maxHeartbeats 1000000
set_option maxHeartbeats 16000000 in
theorem combined_any (F : Nat) (hcf : ∀ (va : Array Value) (w : World), (callFunc F va).run Try.prog w = .ok (.enter F va) w) (x y z x' y' z' r0 r1 r2 : Iv)
    (C0 : ∀ w : World, Calls Try.prog F #[.agg #[.int .i64 x.1, .int .i64 x.2], .agg #[.int .i64 x'.1, .int .i64 x'.2]] w fun e w' => e = .returned (.agg #[.int .i64 r0.1, .int .i64 r0.2]) ∧ Below w.heap.size w w')
    (C1 : ∀ w : World, Calls Try.prog F #[.agg #[.int .i64 y.1, .int .i64 y.2], .agg #[.int .i64 y'.1, .int .i64 y'.2]] w fun e w' => e = .returned (.agg #[.int .i64 r1.1, .int .i64 r1.2]) ∧ Below w.heap.size w w')
    (C2 : ∀ w : World, Calls Try.prog F #[.agg #[.int .i64 z.1, .int .i64 z.2], .agg #[.int .i64 z'.1, .int .i64 z'.2]] w fun e w' => e = .returned (.agg #[.int .i64 r2.1, .int .i64 r2.2]) ∧ Below w.heap.size w w') (w : World) : Calls Try.prog 117 #[.agg #[.int .i64 x.1, .int .i64 x.2, .int .i64 y.1, .int .i64 y.2, .int .i64 z.1, .int .i64 z.2], .agg #[.int .i64 x'.1, .int .i64 x'.2, .int .i64 y'.1, .int .i64 y'.2, .int .i64 z'.1, .int .i64 z'.2], .func (Fn.func F) #[] #[]] w fun e w' =>
    e = .returned (.agg #[.int .i64 r0.1, .int .i64 r0.2, .int .i64 r1.1, .int .i64 r1.2, .int .i64 r2.1, .int .i64 r2.2]) ∧ Below w.heap.size w w' := by
  have D0 := Lib.hid C0
  have D1 := Lib.hid C1
  have D2 := Lib.hid C2
  clear C0 C1 C2
  go_enter Try.func117, Try.ntmps117
  go_upto_region 1 with fail
  go_cut [7, 8] (fun s7 s8 wx => ∃ p q : Nat, s7 = .pointer (some ⟨p, 0, none⟩) ∧ s8 = .pointer (some ⟨q, 0, none⟩) ∧ w.heap.size + 1 + 1 < p ∧ w.heap.size + 1 + 1 < q ∧ (Own wx p 0 (.int .i64 x.1) ∧ Own wx p 1 (.int .i64 x.2) ∧ Own wx p 2 (.int .i64 y.1) ∧ Own wx p 3 (.int .i64 y.2) ∧ Own wx p 4 (.int .i64 z.1) ∧ Own wx p 5 (.int .i64 z.2)) ∧ (Own wx q 0 (.int .i64 x'.1) ∧ Own wx q 1 (.int .i64 x'.2) ∧ Own wx q 2 (.int .i64 y'.1) ∧ Own wx q 3 (.int .i64 y'.2) ∧ Own wx q 4 (.int .i64 z'.1) ∧ Own wx q 5 (.int .i64 z'.2)) ∧ (Own wx (w.heap.size + 1 + 1) 0 (.int .i64 0) ∧ Own wx (w.heap.size + 1 + 1) 1 (.int .i64 0) ∧ Own wx (w.heap.size + 1 + 1) 2 (.int .i64 0) ∧ Own wx (w.heap.size + 1 + 1) 3 (.int .i64 0) ∧ Own wx (w.heap.size + 1 + 1) 4 (.int .i64 0) ∧ Own wx (w.heap.size + 1 + 1) 5 (.int .i64 0)) ∧ Below w.heap.size w wx)
  case first =>
    obtain ⟨hlt2, hlt3, hlt4, hlt5, hlt6, hlt7, hlt8, hlt9, hlt10, hlt11⟩ := below_add; go_region_held3 (fun w' => w'.cell? ⟨w.heap.size, 0, none⟩ = some (.int .i64 x.1) ∧ w'.cell? ⟨w.heap.size, 1, none⟩ = some (.int .i64 x.2) ∧ w'.cell? ⟨w.heap.size, 2, none⟩ = some (.int .i64 y.1) ∧ w'.cell? ⟨w.heap.size, 3, none⟩ = some (.int .i64 y.2) ∧ w'.cell? ⟨w.heap.size, 4, none⟩ = some (.int .i64 z.1) ∧ w'.cell? ⟨w.heap.size, 5, none⟩ = some (.int .i64 z.2) ∧ w'.cell? ⟨w.heap.size + 1, 0, none⟩ = some (.int .i64 x'.1) ∧ w'.cell? ⟨w.heap.size + 1, 1, none⟩ = some (.int .i64 x'.2) ∧ w'.cell? ⟨w.heap.size + 1, 2, none⟩ = some (.int .i64 y'.1) ∧ w'.cell? ⟨w.heap.size + 1, 3, none⟩ = some (.int .i64 y'.2) ∧ w'.cell? ⟨w.heap.size + 1, 4, none⟩ = some (.int .i64 z'.1) ∧ w'.cell? ⟨w.heap.size + 1, 5, none⟩ = some (.int .i64 z'.2)) (first | (with_reducible exact ((And.imp (cell_kept (by assumption)) (And.imp (cell_kept (by assumption)) (And.imp (cell_kept (by assumption)) (And.imp (cell_kept (by assumption)) (And.imp (cell_kept (by assumption)) (And.imp (cell_kept (by assumption)) (And.imp (cell_kept (by assumption)) (And.imp (cell_kept (by assumption)) (And.imp (cell_kept (by assumption)) (And.imp (cell_kept (by assumption)) (And.imp (cell_kept (by assumption)) (cell_kept (by assumption))))))))))))) (by assumption))) | (with_reducible exact ((And.imp (cell_alloc) (And.imp (cell_alloc) (And.imp (cell_alloc) (And.imp (cell_alloc) (And.imp (cell_alloc) (And.imp (cell_alloc) (And.imp (cell_alloc) (And.imp (cell_alloc) (And.imp (cell_alloc) (And.imp (cell_alloc) (And.imp (cell_alloc) (cell_alloc)))))))))))) (by assumption))) | (with_reducible exact ((And.imp (fun h => cell_far (by first | (simp; done) | (simp; omega)) (cell_far (by first | (simp; done) | (simp; omega)) h)) (And.imp (fun h => cell_far (by first | (simp; done) | (simp; omega)) (cell_far (by first | (simp; done) | (simp; omega)) h)) (And.imp (fun h => cell_far (by first | (simp; done) | (simp; omega)) (cell_far (by first | (simp; done) | (simp; omega)) h)) (And.imp (fun h => cell_far (by first | (simp; done) | (simp; omega)) (cell_far (by first | (simp; done) | (simp; omega)) h)) (And.imp (fun h => cell_far (by first | (simp; done) | (simp; omega)) (cell_far (by first | (simp; done) | (simp; omega)) h)) (And.imp (fun h => cell_far (by first | (simp; done) | (simp; omega)) (cell_far (by first | (simp; done) | (simp; omega)) h)) (And.imp (fun h => cell_far (by first | (simp; done) | (simp; omega)) (cell_far (by first | (simp; done) | (simp; omega)) h)) (And.imp (fun h => cell_far (by first | (simp; done) | (simp; omega)) (cell_far (by first | (simp; done) | (simp; omega)) h)) (And.imp (fun h => cell_far (by first | (simp; done) | (simp; omega)) (cell_far (by first | (simp; done) | (simp; omega)) h)) (And.imp (fun h => cell_far (by first | (simp; done) | (simp; omega)) (cell_far (by first | (simp; done) | (simp; omega)) h)) (And.imp (fun h => cell_far (by first | (simp; done) | (simp; omega)) (cell_far (by first | (simp; done) | (simp; omega)) h)) (fun h => cell_far (by first | (simp; done) | (simp; omega)) (cell_far (by first | (simp; done) | (simp; omega)) h))))))))))))) (by assumption))) | (refine ⟨?_, ?_, ?_, ?_, ?_, ?_, ?_, ?_, ?_, ?_, ?_, ?_⟩ <;> repeat (first | (with_reducible assumption) | (with_reducible refine cell_far (by first | (simp; done) | (simp; omega)) ?_) | (with_reducible refine cell_drew ?_) | (with_reducible refine cell_drewN ?_) | (with_reducible refine cell_kept (by assumption) ?_) | (simp [go_sem]; done) | (with_reducible refine cell_alloc ?_))) | (simp [go_sem, *]; done)) ((go_at_call 164; refine (tripleOf_exact _ _ _ _).mono ?_; rintro e w1 ⟨rfl, rfl⟩))
    all_goals (go_wp2_with fail; go_meet)
    all_goals exact ⟨_, _, rfl, rfl, by first | omega | (simp [go_sem]; done) | (simp [go_sem]; omega), by first | omega | (simp [go_sem]; done) | (simp [go_sem]; omega), ⟨⟨by simp [go_sem], by simp [go_sem]⟩, ⟨by simp [go_sem], by simp [go_sem]⟩, ⟨by simp [go_sem], by simp [go_sem]⟩, ⟨by simp [go_sem], by simp [go_sem]⟩, ⟨by simp [go_sem], by simp [go_sem]⟩, ⟨by simp [go_sem], by simp [go_sem]⟩⟩, ⟨⟨by simp [go_sem], by simp [go_sem]⟩, ⟨by simp [go_sem], by simp [go_sem]⟩, ⟨by simp [go_sem], by simp [go_sem]⟩, ⟨by simp [go_sem], by simp [go_sem]⟩, ⟨by simp [go_sem], by simp [go_sem]⟩, ⟨by simp [go_sem], by simp [go_sem]⟩⟩, ⟨⟨by simp [go_sem], by simp [go_sem]⟩, ⟨by simp [go_sem], by simp [go_sem]⟩, ⟨by simp [go_sem], by simp [go_sem]⟩, ⟨by simp [go_sem], by simp [go_sem]⟩, ⟨by simp [go_sem], by simp [go_sem]⟩, ⟨by simp [go_sem], by simp [go_sem]⟩⟩, belB⟩
  case rest =>
    obtain ⟨p, q, rfl, rfl, lp, lq, ⟨p0, p1, p2, p3, p4, p5⟩, ⟨q0, q1, q2, q3, q4, q5⟩, ⟨r0', r1', r2', r3', r4', r5'⟩, hbc⟩ := hcut
    have cq0 := q0.1; have cq1 := q1.1; have cq2 := q2.1; have cq3 := q3.1; have cq4 := q4.1; have cq5 := q5.1
    have hix0 : ∀ (c0 c1 c2 c3 c4 c5 : Value) (w : World), (Instr.index 99 (.agg #[c0, c1, c2, c3, c4, c5]) (.int .i64 0)).run Try.prog w = .ok (.agg #[c0, c1]) w := fun _ _ _ _ _ _ _ => by kernel_rfl
    have hix1 : ∀ (c0 c1 c2 c3 c4 c5 : Value) (w : World), (Instr.index 99 (.agg #[c0, c1, c2, c3, c4, c5]) (.int .i64 1)).run Try.prog w = .ok (.agg #[c2, c3]) w := fun _ _ _ _ _ _ _ => by kernel_rfl
    have hix2 : ∀ (c0 c1 c2 c3 c4 c5 : Value) (w : World), (Instr.index 99 (.agg #[c0, c1, c2, c3, c4, c5]) (.int .i64 2)).run Try.prog w = .ok (.agg #[c4, c5]) w := fun _ _ _ _ _ _ _ => by kernel_rfl
    go_wp2_with fail
    refine wp_loop_rounds 4 ?_
    rw [rounds_succ]
    go_wp2_with fail
    obtain ⟨e, he⟩ : ∃ e, e = wc.heap.size := ⟨_, rfl⟩
    try rw [← he]
    obtain ⟨we, hwe⟩ : ∃ u, u = wc.alloc (.cells #[.int .i64 x'.1, .int .i64 x'.2] 31) := ⟨_, rfl⟩
    rw [← hwe]
    have e0 : Own we e 0 (.int .i64 x'.1) := by rw [hwe, he]; exact ⟨by simp [go_sem], by simp [go_sem]⟩
    have e1 : Own we e 1 (.int .i64 x'.2) := by rw [hwe, he]; exact ⟨by simp [go_sem], by simp [go_sem]⟩
    have a0 : Own we p 0 (.int .i64 x.1) := by rw [hwe]; exact own_alloc p0
    have a1 : Own we p 1 (.int .i64 x.2) := by rw [hwe]; exact own_alloc p1
    have a2 : Own we p 2 (.int .i64 y.1) := by rw [hwe]; exact own_alloc p2
    have a3 : Own we p 3 (.int .i64 y.2) := by rw [hwe]; exact own_alloc p3
    have a4 : Own we p 4 (.int .i64 z.1) := by rw [hwe]; exact own_alloc p4
    have a5 : Own we p 5 (.int .i64 z.2) := by rw [hwe]; exact own_alloc p5
    have b0 : Own we (w.heap.size + 1 + 1) 0 (.int .i64 0) := by rw [hwe]; exact own_alloc r0'
    have b1 : Own we (w.heap.size + 1 + 1) 1 (.int .i64 0) := by rw [hwe]; exact own_alloc r1'
    have b2 : Own we (w.heap.size + 1 + 1) 2 (.int .i64 0) := by rw [hwe]; exact own_alloc r2'
    have b3 : Own we (w.heap.size + 1 + 1) 3 (.int .i64 0) := by rw [hwe]; exact own_alloc r3'
    have b4 : Own we (w.heap.size + 1 + 1) 4 (.int .i64 0) := by rw [hwe]; exact own_alloc r4'
    have b5 : Own we (w.heap.size + 1 + 1) 5 (.int .i64 0) := by rw [hwe]; exact own_alloc r5'
    have bwe : Below w.heap.size w we := by rw [hwe]; exact hbc.alloc hbc.size _
    have lpe : p < e := by rw [he]; exact World.block_lt_of_cell? _ _ p0.1
    clear hwe he p0 p1 p2 p3 p4 p5 hbc r0' r1' r2' r3' r4' r5'
    refine AnyS.region (S := OneS 8 (fun u => u.cell? ⟨p, 0, none⟩ = some (.int .i64 x.1) ∧ u.cell? ⟨p, 1, none⟩ = some (.int .i64 x.2) ∧ u.cell? ⟨e, 0, none⟩ = some (.int .i64 x'.1) ∧ u.cell? ⟨e, 1, none⟩ = some (.int .i64 x'.2))) (by kernel_rfl) (show AnyS _ _ _ _ _ 9 _ _ _ from ?_)
    refine AnyS.take (i := 0) (v := .int .i64 0) (T := fun _ => True) [] rfl (by kernel_rfl) (by kernel_rfl) (by kernel_rfl) (by kernel_rfl) (by kernel_rfl) (fun _ _ _ h => h) (fun L u q s => trivial) (fun L u s => OneS.less (by decide) s) (Or.inl ⟨by rfl, ?_⟩) (fun _ => ⟨(own_drew a0).1, (own_drew a1).1, (own_drew e0).1, (own_drew e1).1⟩) ?_
    · intro u hu
      clear hu
      go_simp
    try simp only [Act.put, List.setIfInBounds_toArray, List.set_cons_zero, List.set_cons_succ]
    refine AnyS.take (i := 1) (v := .func (Fn.func F) #[] #[]) (T := fun _ => True) [] rfl (by kernel_rfl) (by kernel_rfl) (by kernel_rfl) (by kernel_rfl) (by kernel_rfl) (fun _ _ _ h => h) (fun L u q s => trivial) (fun L u s => OneS.less (by decide) s) (Or.inl ⟨by rfl, ?_⟩) (fun _ => ⟨(own_drew a0).1, (own_drew a1).1, (own_drew e0).1, (own_drew e1).1⟩) ?_
    · intro u hu
      clear hu
      go_simp
    try simp only [Act.put, List.setIfInBounds_toArray, List.set_cons_zero, List.set_cons_succ]
    refine AnyS.take (i := 2) (v := .int .i64 0) (T := fun _ => True) [] rfl (by kernel_rfl) (by kernel_rfl) (by kernel_rfl) (by kernel_rfl) (by kernel_rfl) (fun _ _ _ h => h) (fun L u q s => trivial) (fun L u s => OneS.less (by decide) s) (Or.inl ⟨by rfl, ?_⟩) (fun _ => ⟨(own_drew a0).1, (own_drew a1).1, (own_drew e0).1, (own_drew e1).1⟩) ?_
    · intro u hu
      clear hu
      go_simp
    try simp only [Act.put, List.setIfInBounds_toArray, List.set_cons_zero, List.set_cons_succ]
    refine AnyS.take (i := 3) (v := .pointer (some ⟨p, 0, none⟩)) (T := fun _ => True) [] rfl (by kernel_rfl) (by kernel_rfl) (by kernel_rfl) (by kernel_rfl) (by kernel_rfl) (fun _ _ _ h => h) (fun L u q s => trivial) (fun L u s => OneS.less (by decide) s) (Or.inl ⟨by rfl, ?_⟩) (fun _ => ⟨(own_drew a0).1, (own_drew a1).1, (own_drew e0).1, (own_drew e1).1⟩) ?_
    · intro u hu
      clear hu
      go_simp
    try simp only [Act.put, List.setIfInBounds_toArray, List.set_cons_zero, List.set_cons_succ]
    refine AnyS.take (i := 4) (v := .agg #[.int .i64 x.1, .int .i64 x.2]) (T := fun u => u.cell? ⟨p, 0, none⟩ = some (.int .i64 x.1) ∧ u.cell? ⟨p, 1, none⟩ = some (.int .i64 x.2) ∧ u.cell? ⟨e, 0, none⟩ = some (.int .i64 x'.1) ∧ u.cell? ⟨e, 1, none⟩ = some (.int .i64 x'.2)) [8] rfl (by kernel_rfl) (by kernel_rfl) (by kernel_rfl) (by kernel_rfl) (by kernel_rfl) (fun _ _ _ h => h) (fun L u q s => s (q 8 (by simp))) (fun L u s => OneS.less (by decide) s) (Or.inl ⟨by rfl, ?_⟩) (fun _ => ⟨(own_drew a0).1, (own_drew a1).1, (own_drew e0).1, (own_drew e1).1⟩) ?_
    · intro u hu
      obtain ⟨u0, u1, u2, u3⟩ := hu
      go_simp
    try simp only [Act.put, List.setIfInBounds_toArray, List.set_cons_zero, List.set_cons_succ]
    refine AnyS.take (i := 5) (v := .agg #[.int .i64 x'.1, .int .i64 x'.2]) (T := fun u => u.cell? ⟨p, 0, none⟩ = some (.int .i64 x.1) ∧ u.cell? ⟨p, 1, none⟩ = some (.int .i64 x.2) ∧ u.cell? ⟨e, 0, none⟩ = some (.int .i64 x'.1) ∧ u.cell? ⟨e, 1, none⟩ = some (.int .i64 x'.2)) [8] rfl (by kernel_rfl) (by kernel_rfl) (by kernel_rfl) (by kernel_rfl) (by kernel_rfl) (fun _ _ _ h => h) (fun L u q s => s (q 8 (by simp))) (fun L u s => OneS.less (by decide) s) (Or.inl ⟨by rfl, ?_⟩) (fun _ => ⟨(own_drew a0).1, (own_drew a1).1, (own_drew e0).1, (own_drew e1).1⟩) ?_
    · intro u hu
      obtain ⟨u0, u1, u2, u3⟩ := hu
      go_simp
    try simp only [Act.put, List.setIfInBounds_toArray, List.set_cons_zero, List.set_cons_succ]
    refine AnyS.one (i := 6) (by kernel_rfl) (AnyS.comes rfl (fun K hK => ?_))
    go_simp
    refine (D0.out _).mono ?_
    rintro _ w0 ⟨rfl, hb0⟩
    have p0 : Own w0 p 0 (.int .i64 x.1) := own_kept hb0 (own_drew a0)
    have p1 : Own w0 p 1 (.int .i64 x.2) := own_kept hb0 (own_drew a1)
    have p2 : Own w0 p 2 (.int .i64 y.1) := own_kept hb0 (own_drew a2)
    have p3 : Own w0 p 3 (.int .i64 y.2) := own_kept hb0 (own_drew a3)
    have p4 : Own w0 p 4 (.int .i64 z.1) := own_kept hb0 (own_drew a4)
    have p5 : Own w0 p 5 (.int .i64 z.2) := own_kept hb0 (own_drew a5)
    have r0' : Own w0 (w.heap.size + 1 + 1) 0 (.int .i64 0) := own_kept hb0 (own_drew b0)
    have r1' : Own w0 (w.heap.size + 1 + 1) 1 (.int .i64 0) := own_kept hb0 (own_drew b1)
    have r2' : Own w0 (w.heap.size + 1 + 1) 2 (.int .i64 0) := own_kept hb0 (own_drew b2)
    have r3' : Own w0 (w.heap.size + 1 + 1) 3 (.int .i64 0) := own_kept hb0 (own_drew b3)
    have r4' : Own w0 (w.heap.size + 1 + 1) 4 (.int .i64 0) := own_kept hb0 (own_drew b4)
    have r5' : Own w0 (w.heap.size + 1 + 1) 5 (.int .i64 0) := own_kept hb0 (own_drew b5)
    have e0' : Own w0 e 0 (.int .i64 x'.1) := own_kept hb0 (own_drew e0)
    have e1' : Own w0 e 1 (.int .i64 x'.2) := own_kept hb0 (own_drew e1)
    have bw0 : Below w.heap.size w w0 := (Below.drew bwe).trans (hb0.mono (Below.drew bwe).size)
    clear hb0 a0 a1 a2 a3 a4 a5 b0 b1 b2 b3 b4 b5 e0 e1 bwe
    go_wp2_with fail
    refine hK.out _ _ (fun _ => ⟨p0.1, p1.1, e0'.1, e1'.1⟩) ?_
    clear hK K
    try simp only [Act.put, List.setIfInBounds_toArray, List.set_cons_zero, List.set_cons_succ]
    refine AnyS.take (i := 7) (v := .pointer (some ⟨p, 0, none⟩)) (T := fun _ => True) [] rfl (by kernel_rfl) (by kernel_rfl) (by kernel_rfl) (by kernel_rfl) (by kernel_rfl) (fun _ _ _ h => h) (fun L u q s => trivial) (fun L u s => OneS.less (by decide) s) (Or.inl ⟨by rfl, ?_⟩) (fun _ => ⟨p0.1, p1.1, e0'.1, e1'.1⟩) ?_
    · intro u hu
      clear hu
      go_simp
    try simp only [Act.put, List.setIfInBounds_toArray, List.set_cons_zero, List.set_cons_succ]
    refine AnyS.one (i := 8) (by kernel_rfl) (AnyS.comes rfl (fun K hK => ?_))
    have s0 := p0.1
    have s1 := p1.1
    have f0 := p0.2
    have f1 := p1.2
    go_simp
    refine hK.out _ _ (fun h => absurd h (by decide)) ?_
    clear hK K
    try simp only [Act.put, List.setIfInBounds_toArray, List.set_cons_zero, List.set_cons_succ]
    refine AnyS.done (by kernel_rfl) ?_ _
    go_wp2_with fail
    clear s0 s1 f0 f1 e0' e1'
    obtain ⟨v0, hv⟩ : ∃ u, u = (w0.setCell ⟨p, 0, none⟩ (.int .i64 r0.1)).setCell ⟨p, 1, none⟩ (.int .i64 r0.2) := ⟨_, rfl⟩
    rw [← hv]
    have n0 : Own v0 p 0 (.int .i64 r0.1) := by rw [hv]; exact own_next (by decide) (own_put p0)
    have n1 : Own v0 p 1 (.int .i64 r0.2) := by rw [hv]; exact own_put (own_next (by decide) p1)
    have n2 : Own v0 p 2 (.int .i64 y.1) := by rw [hv]; exact own_next (by decide) (own_next (by decide) p2)
    have n3 : Own v0 p 3 (.int .i64 y.2) := by rw [hv]; exact own_next (by decide) (own_next (by decide) p3)
    have n4 : Own v0 p 4 (.int .i64 z.1) := by rw [hv]; exact own_next (by decide) (own_next (by decide) p4)
    have n5 : Own v0 p 5 (.int .i64 z.2) := by rw [hv]; exact own_next (by decide) (own_next (by decide) p5)
    have m0 : Own v0 (w.heap.size + 1 + 1) 0 (.int .i64 0) := by rw [hv]; exact own_far (by dsimp only; omega) (own_far (by dsimp only; omega) r0')
    have m1 : Own v0 (w.heap.size + 1 + 1) 1 (.int .i64 0) := by rw [hv]; exact own_far (by dsimp only; omega) (own_far (by dsimp only; omega) r1')
    have m2 : Own v0 (w.heap.size + 1 + 1) 2 (.int .i64 0) := by rw [hv]; exact own_far (by dsimp only; omega) (own_far (by dsimp only; omega) r2')
    have m3 : Own v0 (w.heap.size + 1 + 1) 3 (.int .i64 0) := by rw [hv]; exact own_far (by dsimp only; omega) (own_far (by dsimp only; omega) r3')
    have m4 : Own v0 (w.heap.size + 1 + 1) 4 (.int .i64 0) := by rw [hv]; exact own_far (by dsimp only; omega) (own_far (by dsimp only; omega) r4')
    have m5 : Own v0 (w.heap.size + 1 + 1) 5 (.int .i64 0) := by rw [hv]; exact own_far (by dsimp only; omega) (own_far (by dsimp only; omega) r5')
    have bv0 : Below w.heap.size w v0 := by rw [hv]; exact belB
    clear hv lpe bw0 p0 p1 p2 p3 p4 p5 r0' r1' r2' r3' r4' r5'
    have p0 := n0
    have p1 := n1
    have p2 := n2
    have p3 := n3
    have p4 := n4
    have p5 := n5
    have r0' := m0
    have r1' := m1
    have r2' := m2
    have r3' := m3
    have r4' := m4
    have r5' := m5
    clear n0 n1 n2 n3 n4 n5 m0 m1 m2 m3 m4 m5
    rw [rounds_succ]
    go_wp2_with fail
    obtain ⟨e, he⟩ : ∃ e, e = v0.heap.size := ⟨_, rfl⟩
    try rw [← he]
    obtain ⟨we, hwe⟩ : ∃ u, u = v0.alloc (.cells #[.int .i64 y'.1, .int .i64 y'.2] 31) := ⟨_, rfl⟩
    rw [← hwe]
    have e0 : Own we e 0 (.int .i64 y'.1) := by rw [hwe, he]; exact ⟨by simp [go_sem], by simp [go_sem]⟩
    have e1 : Own we e 1 (.int .i64 y'.2) := by rw [hwe, he]; exact ⟨by simp [go_sem], by simp [go_sem]⟩
    have a0 : Own we p 0 (.int .i64 r0.1) := by rw [hwe]; exact own_alloc p0
    have a1 : Own we p 1 (.int .i64 r0.2) := by rw [hwe]; exact own_alloc p1
    have a2 : Own we p 2 (.int .i64 y.1) := by rw [hwe]; exact own_alloc p2
    have a3 : Own we p 3 (.int .i64 y.2) := by rw [hwe]; exact own_alloc p3
    have a4 : Own we p 4 (.int .i64 z.1) := by rw [hwe]; exact own_alloc p4
    have a5 : Own we p 5 (.int .i64 z.2) := by rw [hwe]; exact own_alloc p5
    have b0 : Own we (w.heap.size + 1 + 1) 0 (.int .i64 0) := by rw [hwe]; exact own_alloc r0'
    have b1 : Own we (w.heap.size + 1 + 1) 1 (.int .i64 0) := by rw [hwe]; exact own_alloc r1'
    have b2 : Own we (w.heap.size + 1 + 1) 2 (.int .i64 0) := by rw [hwe]; exact own_alloc r2'
    have b3 : Own we (w.heap.size + 1 + 1) 3 (.int .i64 0) := by rw [hwe]; exact own_alloc r3'
    have b4 : Own we (w.heap.size + 1 + 1) 4 (.int .i64 0) := by rw [hwe]; exact own_alloc r4'
    have b5 : Own we (w.heap.size + 1 + 1) 5 (.int .i64 0) := by rw [hwe]; exact own_alloc r5'
    have bwe : Below w.heap.size w we := by rw [hwe]; exact bv0.alloc bv0.size _
    have lpe : p < e := by rw [he]; exact World.block_lt_of_cell? _ _ p0.1
    clear hwe he p0 p1 p2 p3 p4 p5 bv0 r0' r1' r2' r3' r4' r5'
    refine AnyS.region (S := OneS 8 (fun u => u.cell? ⟨p, 2, none⟩ = some (.int .i64 y.1) ∧ u.cell? ⟨p, 3, none⟩ = some (.int .i64 y.2) ∧ u.cell? ⟨e, 0, none⟩ = some (.int .i64 y'.1) ∧ u.cell? ⟨e, 1, none⟩ = some (.int .i64 y'.2))) (by kernel_rfl) (show AnyS _ _ _ _ _ 9 _ _ _ from ?_)
    refine AnyS.take (i := 0) (v := .int .i64 1) (T := fun _ => True) [] rfl (by kernel_rfl) (by kernel_rfl) (by kernel_rfl) (by kernel_rfl) (by kernel_rfl) (fun _ _ _ h => h) (fun L u q s => trivial) (fun L u s => OneS.less (by decide) s) (Or.inl ⟨by rfl, ?_⟩) (fun _ => ⟨(own_drew a2).1, (own_drew a3).1, (own_drew e0).1, (own_drew e1).1⟩) ?_
    · intro u hu
      clear hu
      go_simp
    try simp only [Act.put, List.setIfInBounds_toArray, List.set_cons_zero, List.set_cons_succ]
    refine AnyS.take (i := 1) (v := .func (Fn.func F) #[] #[]) (T := fun _ => True) [] rfl (by kernel_rfl) (by kernel_rfl) (by kernel_rfl) (by kernel_rfl) (by kernel_rfl) (fun _ _ _ h => h) (fun L u q s => trivial) (fun L u s => OneS.less (by decide) s) (Or.inl ⟨by rfl, ?_⟩) (fun _ => ⟨(own_drew a2).1, (own_drew a3).1, (own_drew e0).1, (own_drew e1).1⟩) ?_
    · intro u hu
      clear hu
      go_simp
    try simp only [Act.put, List.setIfInBounds_toArray, List.set_cons_zero, List.set_cons_succ]
    refine AnyS.take (i := 2) (v := .int .i64 1) (T := fun _ => True) [] rfl (by kernel_rfl) (by kernel_rfl) (by kernel_rfl) (by kernel_rfl) (by kernel_rfl) (fun _ _ _ h => h) (fun L u q s => trivial) (fun L u s => OneS.less (by decide) s) (Or.inl ⟨by rfl, ?_⟩) (fun _ => ⟨(own_drew a2).1, (own_drew a3).1, (own_drew e0).1, (own_drew e1).1⟩) ?_
    · intro u hu
      clear hu
      go_simp
    try simp only [Act.put, List.setIfInBounds_toArray, List.set_cons_zero, List.set_cons_succ]
    refine AnyS.take (i := 3) (v := .pointer (some ⟨p, 2, none⟩)) (T := fun _ => True) [] rfl (by kernel_rfl) (by kernel_rfl) (by kernel_rfl) (by kernel_rfl) (by kernel_rfl) (fun _ _ _ h => h) (fun L u q s => trivial) (fun L u s => OneS.less (by decide) s) (Or.inl ⟨by rfl, ?_⟩) (fun _ => ⟨(own_drew a2).1, (own_drew a3).1, (own_drew e0).1, (own_drew e1).1⟩) ?_
    · intro u hu
      clear hu
      go_simp
    try simp only [Act.put, List.setIfInBounds_toArray, List.set_cons_zero, List.set_cons_succ]
    refine AnyS.take (i := 4) (v := .agg #[.int .i64 y.1, .int .i64 y.2]) (T := fun u => u.cell? ⟨p, 2, none⟩ = some (.int .i64 y.1) ∧ u.cell? ⟨p, 3, none⟩ = some (.int .i64 y.2) ∧ u.cell? ⟨e, 0, none⟩ = some (.int .i64 y'.1) ∧ u.cell? ⟨e, 1, none⟩ = some (.int .i64 y'.2)) [8] rfl (by kernel_rfl) (by kernel_rfl) (by kernel_rfl) (by kernel_rfl) (by kernel_rfl) (fun _ _ _ h => h) (fun L u q s => s (q 8 (by simp))) (fun L u s => OneS.less (by decide) s) (Or.inl ⟨by rfl, ?_⟩) (fun _ => ⟨(own_drew a2).1, (own_drew a3).1, (own_drew e0).1, (own_drew e1).1⟩) ?_
    · intro u hu
      obtain ⟨u0, u1, u2, u3⟩ := hu
      go_simp
    try simp only [Act.put, List.setIfInBounds_toArray, List.set_cons_zero, List.set_cons_succ]
    refine AnyS.take (i := 5) (v := .agg #[.int .i64 y'.1, .int .i64 y'.2]) (T := fun u => u.cell? ⟨p, 2, none⟩ = some (.int .i64 y.1) ∧ u.cell? ⟨p, 3, none⟩ = some (.int .i64 y.2) ∧ u.cell? ⟨e, 0, none⟩ = some (.int .i64 y'.1) ∧ u.cell? ⟨e, 1, none⟩ = some (.int .i64 y'.2)) [8] rfl (by kernel_rfl) (by kernel_rfl) (by kernel_rfl) (by kernel_rfl) (by kernel_rfl) (fun _ _ _ h => h) (fun L u q s => s (q 8 (by simp))) (fun L u s => OneS.less (by decide) s) (Or.inl ⟨by rfl, ?_⟩) (fun _ => ⟨(own_drew a2).1, (own_drew a3).1, (own_drew e0).1, (own_drew e1).1⟩) ?_
    · intro u hu
      obtain ⟨u0, u1, u2, u3⟩ := hu
      go_simp
    try simp only [Act.put, List.setIfInBounds_toArray, List.set_cons_zero, List.set_cons_succ]
    refine AnyS.one (i := 6) (by kernel_rfl) (AnyS.comes rfl (fun K hK => ?_))
    go_simp
    refine (D1.out _).mono ?_
    rintro _ w1 ⟨rfl, hb1⟩
    have p0 : Own w1 p 0 (.int .i64 r0.1) := own_kept hb1 (own_drew a0)
    have p1 : Own w1 p 1 (.int .i64 r0.2) := own_kept hb1 (own_drew a1)
    have p2 : Own w1 p 2 (.int .i64 y.1) := own_kept hb1 (own_drew a2)
    have p3 : Own w1 p 3 (.int .i64 y.2) := own_kept hb1 (own_drew a3)
    have p4 : Own w1 p 4 (.int .i64 z.1) := own_kept hb1 (own_drew a4)
    have p5 : Own w1 p 5 (.int .i64 z.2) := own_kept hb1 (own_drew a5)
    have r0' : Own w1 (w.heap.size + 1 + 1) 0 (.int .i64 0) := own_kept hb1 (own_drew b0)
    have r1' : Own w1 (w.heap.size + 1 + 1) 1 (.int .i64 0) := own_kept hb1 (own_drew b1)
    have r2' : Own w1 (w.heap.size + 1 + 1) 2 (.int .i64 0) := own_kept hb1 (own_drew b2)
    have r3' : Own w1 (w.heap.size + 1 + 1) 3 (.int .i64 0) := own_kept hb1 (own_drew b3)
    have r4' : Own w1 (w.heap.size + 1 + 1) 4 (.int .i64 0) := own_kept hb1 (own_drew b4)
    have r5' : Own w1 (w.heap.size + 1 + 1) 5 (.int .i64 0) := own_kept hb1 (own_drew b5)
    have e0' : Own w1 e 0 (.int .i64 y'.1) := own_kept hb1 (own_drew e0)
    have e1' : Own w1 e 1 (.int .i64 y'.2) := own_kept hb1 (own_drew e1)
    have bw1 : Below w.heap.size w w1 := (Below.drew bwe).trans (hb1.mono (Below.drew bwe).size)
    clear hb1 a0 a1 a2 a3 a4 a5 b0 b1 b2 b3 b4 b5 e0 e1 bwe
    go_wp2_with fail
    refine hK.out _ _ (fun _ => ⟨p2.1, p3.1, e0'.1, e1'.1⟩) ?_
    clear hK K
    try simp only [Act.put, List.setIfInBounds_toArray, List.set_cons_zero, List.set_cons_succ]
    refine AnyS.take (i := 7) (v := .pointer (some ⟨p, 2, none⟩)) (T := fun _ => True) [] rfl (by kernel_rfl) (by kernel_rfl) (by kernel_rfl) (by kernel_rfl) (by kernel_rfl) (fun _ _ _ h => h) (fun L u q s => trivial) (fun L u s => OneS.less (by decide) s) (Or.inl ⟨by rfl, ?_⟩) (fun _ => ⟨p2.1, p3.1, e0'.1, e1'.1⟩) ?_
    · intro u hu
      clear hu
      go_simp
    try simp only [Act.put, List.setIfInBounds_toArray, List.set_cons_zero, List.set_cons_succ]
    refine AnyS.one (i := 8) (by kernel_rfl) (AnyS.comes rfl (fun K hK => ?_))
    have s0 := p2.1
    have s1 := p3.1
    have f0 := p2.2
    have f1 := p3.2
    go_simp
    refine hK.out _ _ (fun h => absurd h (by decide)) ?_
    clear hK K
    try simp only [Act.put, List.setIfInBounds_toArray, List.set_cons_zero, List.set_cons_succ]
    refine AnyS.done (by kernel_rfl) ?_ _
    go_wp2_with fail
    clear s0 s1 f0 f1 e0' e1'
    obtain ⟨v1, hv⟩ : ∃ u, u = (w1.setCell ⟨p, 2, none⟩ (.int .i64 r1.1)).setCell ⟨p, 3, none⟩ (.int .i64 r1.2) := ⟨_, rfl⟩
    rw [← hv]
    have n0 : Own v1 p 0 (.int .i64 r0.1) := by rw [hv]; exact own_next (by decide) (own_next (by decide) p0)
    have n1 : Own v1 p 1 (.int .i64 r0.2) := by rw [hv]; exact own_next (by decide) (own_next (by decide) p1)
    have n2 : Own v1 p 2 (.int .i64 r1.1) := by rw [hv]; exact own_next (by decide) (own_put p2)
    have n3 : Own v1 p 3 (.int .i64 r1.2) := by rw [hv]; exact own_put (own_next (by decide) p3)
    have n4 : Own v1 p 4 (.int .i64 z.1) := by rw [hv]; exact own_next (by decide) (own_next (by decide) p4)
    have n5 : Own v1 p 5 (.int .i64 z.2) := by rw [hv]; exact own_next (by decide) (own_next (by decide) p5)
    have m0 : Own v1 (w.heap.size + 1 + 1) 0 (.int .i64 0) := by rw [hv]; exact own_far (by dsimp only; omega) (own_far (by dsimp only; omega) r0')
    have m1 : Own v1 (w.heap.size + 1 + 1) 1 (.int .i64 0) := by rw [hv]; exact own_far (by dsimp only; omega) (own_far (by dsimp only; omega) r1')
    have m2 : Own v1 (w.heap.size + 1 + 1) 2 (.int .i64 0) := by rw [hv]; exact own_far (by dsimp only; omega) (own_far (by dsimp only; omega) r2')
    have m3 : Own v1 (w.heap.size + 1 + 1) 3 (.int .i64 0) := by rw [hv]; exact own_far (by dsimp only; omega) (own_far (by dsimp only; omega) r3')
    have m4 : Own v1 (w.heap.size + 1 + 1) 4 (.int .i64 0) := by rw [hv]; exact own_far (by dsimp only; omega) (own_far (by dsimp only; omega) r4')
    have m5 : Own v1 (w.heap.size + 1 + 1) 5 (.int .i64 0) := by rw [hv]; exact own_far (by dsimp only; omega) (own_far (by dsimp only; omega) r5')
    have bv1 : Below w.heap.size w v1 := by rw [hv]; exact belB
    clear hv lpe bw1 p0 p1 p2 p3 p4 p5 r0' r1' r2' r3' r4' r5'
    have p0 := n0
    have p1 := n1
    have p2 := n2
    have p3 := n3
    have p4 := n4
    have p5 := n5
    have r0' := m0
    have r1' := m1
    have r2' := m2
    have r3' := m3
    have r4' := m4
    have r5' := m5
    clear n0 n1 n2 n3 n4 n5 m0 m1 m2 m3 m4 m5
    rw [rounds_succ]
    go_wp2_with fail
    obtain ⟨e, he⟩ : ∃ e, e = v1.heap.size := ⟨_, rfl⟩
    try rw [← he]
    obtain ⟨we, hwe⟩ : ∃ u, u = v1.alloc (.cells #[.int .i64 z'.1, .int .i64 z'.2] 31) := ⟨_, rfl⟩
    rw [← hwe]
    have e0 : Own we e 0 (.int .i64 z'.1) := by rw [hwe, he]; exact ⟨by simp [go_sem], by simp [go_sem]⟩
    have e1 : Own we e 1 (.int .i64 z'.2) := by rw [hwe, he]; exact ⟨by simp [go_sem], by simp [go_sem]⟩
    have a0 : Own we p 0 (.int .i64 r0.1) := by rw [hwe]; exact own_alloc p0
    have a1 : Own we p 1 (.int .i64 r0.2) := by rw [hwe]; exact own_alloc p1
    have a2 : Own we p 2 (.int .i64 r1.1) := by rw [hwe]; exact own_alloc p2
    have a3 : Own we p 3 (.int .i64 r1.2) := by rw [hwe]; exact own_alloc p3
    have a4 : Own we p 4 (.int .i64 z.1) := by rw [hwe]; exact own_alloc p4
    have a5 : Own we p 5 (.int .i64 z.2) := by rw [hwe]; exact own_alloc p5
    have b0 : Own we (w.heap.size + 1 + 1) 0 (.int .i64 0) := by rw [hwe]; exact own_alloc r0'
    have b1 : Own we (w.heap.size + 1 + 1) 1 (.int .i64 0) := by rw [hwe]; exact own_alloc r1'
    have b2 : Own we (w.heap.size + 1 + 1) 2 (.int .i64 0) := by rw [hwe]; exact own_alloc r2'
    have b3 : Own we (w.heap.size + 1 + 1) 3 (.int .i64 0) := by rw [hwe]; exact own_alloc r3'
    have b4 : Own we (w.heap.size + 1 + 1) 4 (.int .i64 0) := by rw [hwe]; exact own_alloc r4'
    have b5 : Own we (w.heap.size + 1 + 1) 5 (.int .i64 0) := by rw [hwe]; exact own_alloc r5'
    have bwe : Below w.heap.size w we := by rw [hwe]; exact bv1.alloc bv1.size _
    have lpe : p < e := by rw [he]; exact World.block_lt_of_cell? _ _ p0.1
    clear hwe he p0 p1 p2 p3 p4 p5 bv1 r0' r1' r2' r3' r4' r5'
    refine AnyS.region (S := OneS 8 (fun u => u.cell? ⟨p, 4, none⟩ = some (.int .i64 z.1) ∧ u.cell? ⟨p, 5, none⟩ = some (.int .i64 z.2) ∧ u.cell? ⟨e, 0, none⟩ = some (.int .i64 z'.1) ∧ u.cell? ⟨e, 1, none⟩ = some (.int .i64 z'.2))) (by kernel_rfl) (show AnyS _ _ _ _ _ 9 _ _ _ from ?_)
    refine AnyS.take (i := 0) (v := .int .i64 2) (T := fun _ => True) [] rfl (by kernel_rfl) (by kernel_rfl) (by kernel_rfl) (by kernel_rfl) (by kernel_rfl) (fun _ _ _ h => h) (fun L u q s => trivial) (fun L u s => OneS.less (by decide) s) (Or.inl ⟨by rfl, ?_⟩) (fun _ => ⟨(own_drew a4).1, (own_drew a5).1, (own_drew e0).1, (own_drew e1).1⟩) ?_
    · intro u hu
      clear hu
      go_simp
    try simp only [Act.put, List.setIfInBounds_toArray, List.set_cons_zero, List.set_cons_succ]
    refine AnyS.take (i := 1) (v := .func (Fn.func F) #[] #[]) (T := fun _ => True) [] rfl (by kernel_rfl) (by kernel_rfl) (by kernel_rfl) (by kernel_rfl) (by kernel_rfl) (fun _ _ _ h => h) (fun L u q s => trivial) (fun L u s => OneS.less (by decide) s) (Or.inl ⟨by rfl, ?_⟩) (fun _ => ⟨(own_drew a4).1, (own_drew a5).1, (own_drew e0).1, (own_drew e1).1⟩) ?_
    · intro u hu
      clear hu
      go_simp
    try simp only [Act.put, List.setIfInBounds_toArray, List.set_cons_zero, List.set_cons_succ]
    refine AnyS.take (i := 2) (v := .int .i64 2) (T := fun _ => True) [] rfl (by kernel_rfl) (by kernel_rfl) (by kernel_rfl) (by kernel_rfl) (by kernel_rfl) (fun _ _ _ h => h) (fun L u q s => trivial) (fun L u s => OneS.less (by decide) s) (Or.inl ⟨by rfl, ?_⟩) (fun _ => ⟨(own_drew a4).1, (own_drew a5).1, (own_drew e0).1, (own_drew e1).1⟩) ?_
    · intro u hu
      clear hu
      go_simp
    try simp only [Act.put, List.setIfInBounds_toArray, List.set_cons_zero, List.set_cons_succ]
    refine AnyS.take (i := 3) (v := .pointer (some ⟨p, 4, none⟩)) (T := fun _ => True) [] rfl (by kernel_rfl) (by kernel_rfl) (by kernel_rfl) (by kernel_rfl) (by kernel_rfl) (fun _ _ _ h => h) (fun L u q s => trivial) (fun L u s => OneS.less (by decide) s) (Or.inl ⟨by rfl, ?_⟩) (fun _ => ⟨(own_drew a4).1, (own_drew a5).1, (own_drew e0).1, (own_drew e1).1⟩) ?_
    · intro u hu
      clear hu
      go_simp
    try simp only [Act.put, List.setIfInBounds_toArray, List.set_cons_zero, List.set_cons_succ]
    refine AnyS.take (i := 4) (v := .agg #[.int .i64 z.1, .int .i64 z.2]) (T := fun u => u.cell? ⟨p, 4, none⟩ = some (.int .i64 z.1) ∧ u.cell? ⟨p, 5, none⟩ = some (.int .i64 z.2) ∧ u.cell? ⟨e, 0, none⟩ = some (.int .i64 z'.1) ∧ u.cell? ⟨e, 1, none⟩ = some (.int .i64 z'.2)) [8] rfl (by kernel_rfl) (by kernel_rfl) (by kernel_rfl) (by kernel_rfl) (by kernel_rfl) (fun _ _ _ h => h) (fun L u q s => s (q 8 (by simp))) (fun L u s => OneS.less (by decide) s) (Or.inl ⟨by rfl, ?_⟩) (fun _ => ⟨(own_drew a4).1, (own_drew a5).1, (own_drew e0).1, (own_drew e1).1⟩) ?_
    · intro u hu
      obtain ⟨u0, u1, u2, u3⟩ := hu
      go_simp
    try simp only [Act.put, List.setIfInBounds_toArray, List.set_cons_zero, List.set_cons_succ]
    refine AnyS.take (i := 5) (v := .agg #[.int .i64 z'.1, .int .i64 z'.2]) (T := fun u => u.cell? ⟨p, 4, none⟩ = some (.int .i64 z.1) ∧ u.cell? ⟨p, 5, none⟩ = some (.int .i64 z.2) ∧ u.cell? ⟨e, 0, none⟩ = some (.int .i64 z'.1) ∧ u.cell? ⟨e, 1, none⟩ = some (.int .i64 z'.2)) [8] rfl (by kernel_rfl) (by kernel_rfl) (by kernel_rfl) (by kernel_rfl) (by kernel_rfl) (fun _ _ _ h => h) (fun L u q s => s (q 8 (by simp))) (fun L u s => OneS.less (by decide) s) (Or.inl ⟨by rfl, ?_⟩) (fun _ => ⟨(own_drew a4).1, (own_drew a5).1, (own_drew e0).1, (own_drew e1).1⟩) ?_
    · intro u hu
      obtain ⟨u0, u1, u2, u3⟩ := hu
      go_simp
    try simp only [Act.put, List.setIfInBounds_toArray, List.set_cons_zero, List.set_cons_succ]
    refine AnyS.one (i := 6) (by kernel_rfl) (AnyS.comes rfl (fun K hK => ?_))
    go_simp
    refine (D2.out _).mono ?_
    rintro _ w2 ⟨rfl, hb2⟩
    have p0 : Own w2 p 0 (.int .i64 r0.1) := own_kept hb2 (own_drew a0)
    have p1 : Own w2 p 1 (.int .i64 r0.2) := own_kept hb2 (own_drew a1)
    have p2 : Own w2 p 2 (.int .i64 r1.1) := own_kept hb2 (own_drew a2)
    have p3 : Own w2 p 3 (.int .i64 r1.2) := own_kept hb2 (own_drew a3)
    have p4 : Own w2 p 4 (.int .i64 z.1) := own_kept hb2 (own_drew a4)
    have p5 : Own w2 p 5 (.int .i64 z.2) := own_kept hb2 (own_drew a5)
    have r0' : Own w2 (w.heap.size + 1 + 1) 0 (.int .i64 0) := own_kept hb2 (own_drew b0)
    have r1' : Own w2 (w.heap.size + 1 + 1) 1 (.int .i64 0) := own_kept hb2 (own_drew b1)
    have r2' : Own w2 (w.heap.size + 1 + 1) 2 (.int .i64 0) := own_kept hb2 (own_drew b2)
    have r3' : Own w2 (w.heap.size + 1 + 1) 3 (.int .i64 0) := own_kept hb2 (own_drew b3)
    have r4' : Own w2 (w.heap.size + 1 + 1) 4 (.int .i64 0) := own_kept hb2 (own_drew b4)
    have r5' : Own w2 (w.heap.size + 1 + 1) 5 (.int .i64 0) := own_kept hb2 (own_drew b5)
    have e0' : Own w2 e 0 (.int .i64 z'.1) := own_kept hb2 (own_drew e0)
    have e1' : Own w2 e 1 (.int .i64 z'.2) := own_kept hb2 (own_drew e1)
    have bw2 : Below w.heap.size w w2 := (Below.drew bwe).trans (hb2.mono (Below.drew bwe).size)
    clear hb2 a0 a1 a2 a3 a4 a5 b0 b1 b2 b3 b4 b5 e0 e1 bwe
    go_wp2_with fail
    refine hK.out _ _ (fun _ => ⟨p4.1, p5.1, e0'.1, e1'.1⟩) ?_
    clear hK K
    try simp only [Act.put, List.setIfInBounds_toArray, List.set_cons_zero, List.set_cons_succ]
    refine AnyS.take (i := 7) (v := .pointer (some ⟨p, 4, none⟩)) (T := fun _ => True) [] rfl (by kernel_rfl) (by kernel_rfl) (by kernel_rfl) (by kernel_rfl) (by kernel_rfl) (fun _ _ _ h => h) (fun L u q s => trivial) (fun L u s => OneS.less (by decide) s) (Or.inl ⟨by rfl, ?_⟩) (fun _ => ⟨p4.1, p5.1, e0'.1, e1'.1⟩) ?_
    · intro u hu
      clear hu
      go_simp
    try simp only [Act.put, List.setIfInBounds_toArray, List.set_cons_zero, List.set_cons_succ]
    refine AnyS.one (i := 8) (by kernel_rfl) (AnyS.comes rfl (fun K hK => ?_))
    have s0 := p4.1
    have s1 := p5.1
    have f0 := p4.2
    have f1 := p5.2
    go_simp
    refine hK.out _ _ (fun h => absurd h (by decide)) ?_
    clear hK K
    try simp only [Act.put, List.setIfInBounds_toArray, List.set_cons_zero, List.set_cons_succ]
    refine AnyS.done (by kernel_rfl) ?_ _
    go_wp2_with fail
    clear s0 s1 f0 f1 e0' e1'
    obtain ⟨v2, hv⟩ : ∃ u, u = (w2.setCell ⟨p, 4, none⟩ (.int .i64 r2.1)).setCell ⟨p, 5, none⟩ (.int .i64 r2.2) := ⟨_, rfl⟩
    rw [← hv]
    have n0 : Own v2 p 0 (.int .i64 r0.1) := by rw [hv]; exact own_next (by decide) (own_next (by decide) p0)
    have n1 : Own v2 p 1 (.int .i64 r0.2) := by rw [hv]; exact own_next (by decide) (own_next (by decide) p1)
    have n2 : Own v2 p 2 (.int .i64 r1.1) := by rw [hv]; exact own_next (by decide) (own_next (by decide) p2)
    have n3 : Own v2 p 3 (.int .i64 r1.2) := by rw [hv]; exact own_next (by decide) (own_next (by decide) p3)
    have n4 : Own v2 p 4 (.int .i64 r2.1) := by rw [hv]; exact own_next (by decide) (own_put p4)
    have n5 : Own v2 p 5 (.int .i64 r2.2) := by rw [hv]; exact own_put (own_next (by decide) p5)
    have m0 : Own v2 (w.heap.size + 1 + 1) 0 (.int .i64 0) := by rw [hv]; exact own_far (by dsimp only; omega) (own_far (by dsimp only; omega) r0')
    have m1 : Own v2 (w.heap.size + 1 + 1) 1 (.int .i64 0) := by rw [hv]; exact own_far (by dsimp only; omega) (own_far (by dsimp only; omega) r1')
    have m2 : Own v2 (w.heap.size + 1 + 1) 2 (.int .i64 0) := by rw [hv]; exact own_far (by dsimp only; omega) (own_far (by dsimp only; omega) r2')
    have m3 : Own v2 (w.heap.size + 1 + 1) 3 (.int .i64 0) := by rw [hv]; exact own_far (by dsimp only; omega) (own_far (by dsimp only; omega) r3')
    have m4 : Own v2 (w.heap.size + 1 + 1) 4 (.int .i64 0) := by rw [hv]; exact own_far (by dsimp only; omega) (own_far (by dsimp only; omega) r4')
    have m5 : Own v2 (w.heap.size + 1 + 1) 5 (.int .i64 0) := by rw [hv]; exact own_far (by dsimp only; omega) (own_far (by dsimp only; omega) r5')
    have bv2 : Below w.heap.size w v2 := by rw [hv]; exact belB
    clear hv lpe bw2 p0 p1 p2 p3 p4 p5 r0' r1' r2' r3' r4' r5'
    have p0 := n0
    have p1 := n1
    have p2 := n2
    have p3 := n3
    have p4 := n4
    have p5 := n5
    have r0' := m0
    have r1' := m1
    have r2' := m2
    have r3' := m3
    have r4' := m4
    have r5' := m5
    clear n0 n1 n2 n3 n4 n5 m0 m1 m2 m3 m4 m5
    rw [rounds_succ]
    have cp0 := p0.1
    have cp1 := p1.1
    have cp2 := p2.1
    have cp3 := p3.1
    have cp4 := p4.1
    have cp5 := p5.1
    have cr0 := r0'.1
    have cr1 := r1'.1
    have cr2 := r2'.1
    have cr3 := r3'.1
    have cr4 := r4'.1
    have cr5 := r5'.1
    have fr0 := r0'.2
    have fr1 := r1'.2
    have fr2 := r2'.2
    have fr3 := r3'.2
    have fr4 := r4'.2
    have fr5 := r5'.2
    go_wp2
    exact bodyPost_ret (v := .agg #[.int .i64 r0.1, .int .i64 r0.2, .int .i64 r1.1, .int .i64 r1.2, .int .i64 r2.1, .int .i64 r2.2]) (by simp [results, Try.results117, go_sem, cr0, cr1, cr2, cr3, cr4, cr5]) rfl ⟨rfl, (by repeat (first | (with_reducible assumption) | (with_reducible refine Below.setCell ?_ (by dsimp only; omega) _)))⟩
end Go.Proofs.Ytmikjgbojknlnaa
