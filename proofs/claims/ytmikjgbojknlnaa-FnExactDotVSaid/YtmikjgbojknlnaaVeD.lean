/- Contract of scalar products in the program. Conditions: numbers are int64. -/
import Derived.Test.YtmikjgbojknlnaaVeC
import Derived.Test.YtmikjgbojknlnaaLat
import Derived.Deep.RegionHeld3
import Derived.LoopN
import Derived.Handy
import Derived.Outline
namespace Go.Proofs.Ytmikjgbojknlnaa
open Go.ChangeShapes Go.WideShapes Go.ChangeAt Go.RowKit
set_option linter.unusedVariables false
set_option maxRecDepth 100000
set_option linter.unusedSimpArgs false
set_option maxHeartbeats 1000000
theorem sumOf2 (a b c : Iv) (p : Nat) (w : World) (c0 : w.cell? ⟨p, 2, none⟩ = some (.int .i64 b.1)) (c1 : w.cell? ⟨p, 3, none⟩ = some (.int .i64 b.2)) (c2 : w.cell? ⟨p, 4, none⟩ = some (.int .i64 c.1)) (c3 : w.cell? ⟨p, 5, none⟩ = some (.int .i64 c.2)) : Calls Try.prog 121 #[.agg #[.int .i64 a.1, .int .i64 a.2], .slice (some ⟨p, 2, none⟩) 2 2] w fun e w' =>
    e = .returned (.agg #[.int .i64 (addI (addI a b) c).1, .int .i64 (addI (addI a b) c).2]) ∧ Below w.heap.size w w' := by
  have A1 := Lib.hid (fun w => AddI_any a b w)
  have A2 := Lib.hid (fun w => AddI_any (addI a b) c w)
  have lp := World.block_lt_of_cell? _ _ c0
  have E0 : ∀ o1 o2 o3 : Obj, (((w.alloc o1).alloc o2).alloc o3).cell? ⟨p, 2, none⟩ = some (.int .i64 b.1) := fun _ _ _ => cell_alloc (cell_alloc (cell_alloc c0))
  have E1 : ∀ o1 o2 o3 : Obj, (((w.alloc o1).alloc o2).alloc o3).cell? ⟨p, 3, none⟩ = some (.int .i64 b.2) := fun _ _ _ => cell_alloc (cell_alloc (cell_alloc c1))
  go_enter Try.func121, Try.ntmps121
  go_wp2_with fail
  refine wp_loop_rounds 3 ?_
  rw [rounds_succ]
  go_wp2_with fail
  refine (A1.out _).mono ?_
  rintro e w1 ⟨rfl, hb1⟩
  have hs1 : _ ≤ w1.heap.size := hb1.size
  try simp at hs1
  have k2 := cell_kept hb1 (cell_alloc (cell_alloc (cell_alloc (cell_alloc c2))))
  have k3 := cell_kept hb1 (cell_alloc (cell_alloc (cell_alloc (cell_alloc c3))))
  have o_r10 : Own (w1) (w.heap.size + 1) 0 (.int .i64 0) := ownJ; have r10 := o_r10.1; have f_r10 := o_r10.2; have o_r11 : Own (w1) (w.heap.size + 1) 1 (.int .i64 0) := ownJ; have r11 := o_r11.1; have f_r11 := o_r11.2
  have o_s10 : Own (w1) (w.heap.size + 1 + 1) 0 (.int .i64 a.1) := ownJ; have s10 := o_s10.1; have f_s10 := o_s10.2; have o_s11 : Own (w1) (w.heap.size + 1 + 1) 1 (.int .i64 a.2) := ownJ; have s11 := o_s11.1; have f_s11 := o_s11.2
  have n1 : ¬ p = w.heap.size + 1 + 1 := by omega
  have n2 : ¬ w.heap.size + 1 + 1 = p := by omega
  have ls : w.heap.size + 1 + 1 < w1.heap.size := by omega
  have n3 : ¬ w1.heap.size = w.heap.size + 1 + 1 := by omega
  have n4 : ¬ w.heap.size + 1 + 1 = w1.heap.size := by omega
  go_wp2_with fail
  rw [rounds_succ]
  go_wp2_with fail
  refine (A2.out _).mono ?_
  rintro e w2 ⟨rfl, hb2⟩
  have hs2 : _ ≤ w2.heap.size := hb2.size
  try simp at hs2
  have o_r20 : Own (w2) (w.heap.size + 1) 0 (.int .i64 0) := ownS; have r20 := o_r20.1; have f_r20 := o_r20.2; have o_r21 : Own (w2) (w.heap.size + 1) 1 (.int .i64 0) := ownS; have r21 := o_r21.1; have f_r21 := o_r21.2
  have o_s20 : Own w2 (w.heap.size + 1 + 1) 0 (.int .i64 (addI a b).1) := own_kept hb2 (own_alloc (own_next (by decide) (own_put o_s10)))
  have o_s21 : Own w2 (w.heap.size + 1 + 1) 1 (.int .i64 (addI a b).2) := own_kept hb2 (own_alloc (own_put (own_next (by decide) o_s11)))
  have s20 := o_s20.1
  have s21 := o_s21.1
  have f_s20 := o_s20.2
  have f_s21 := o_s21.2
  go_wp2_with fail
  rw [rounds_succ]
  go_wp2
  exact bodyPost_ret (v := .agg #[.int .i64 (addI (addI a b) c).1, .int .i64 (addI (addI a b) c).2]) (by simp [results, Try.results121, go_sem, r20, r21]) rfl ⟨rfl, belS⟩
theorem DotV_any (x y z x' y' z' : Iv) (ox : Ok x) (oy : Ok y) (oz : Ok z) (ox' : Ok x') (oy' : Ok y') (oz' : Ok z') (w : World) : Calls Try.prog 64 #[.agg #[.int .i64 x.1, .int .i64 x.2, .int .i64 y.1, .int .i64 y.2, .int .i64 z.1, .int .i64 z.2], .agg #[.int .i64 x'.1, .int .i64 x'.2, .int .i64 y'.1, .int .i64 y'.2, .int .i64 z'.1, .int .i64 z'.2]] w fun e w' =>
    e = .returned (.agg #[.int .i64 (addI (addI (mulI x x') (mulI y y')) (mulI z z')).1, .int .i64 (addI (addI (mulI x x') (mulI y y')) (mulI z z')).2]) ∧ Below w.heap.size w w' := by
  have C := Lib.hid (fun w => combined_any 97 (fun _ _ => by kernel_rfl) x y z x' y' z' (mulI x x') (mulI y y') (mulI z z') (fun w => MulI_any x x' ox ox' w) (fun w => MulI_any y y' oy oy' w) (fun w => MulI_any z z' oz oz' w) w)
  clear ox oy oz ox' oy' oz'
  generalize mulI x x' = m0 at *
  generalize mulI y y' = m1 at *
  generalize mulI z z' = m2 at *
  have F := Lib.hid (fun (p : Nat) (u : World) c0 c1 c2 c3 => sumOf2 m0 m1 m2 p u c0 c1 c2 c3)
  generalize addI (addI m0 m1) m2 = s1 at *
  go_enter Try.func64, Try.ntmps64
  go_wp2_with fail
  refine (C.out _).mono ?_
  rintro e w1 ⟨rfl, hb1⟩
  have hs1 : _ ≤ w1.heap.size := hb1.size
  try simp at hs1
  have o_r10 : Own (w1) (w.heap.size + 1 + 1) 0 (.int .i64 0) := ownS; have r10 := o_r10.1; have f_r10 := o_r10.2; have o_r11 : Own (w1) (w.heap.size + 1 + 1) 1 (.int .i64 0) := ownS; have r11 := o_r11.1; have f_r11 := o_r11.2
  go_wp2_with fail
  obtain ⟨we, hwe⟩ : ∃ u, u = w1.alloc (.cells #[.int .i64 m0.1, .int .i64 m0.2, .int .i64 m1.1, .int .i64 m1.2, .int .i64 m2.1, .int .i64 m2.2] 99) := ⟨_, rfl⟩
  rw [← hwe]
  have e0 : Own we w1.heap.size 0 (.int .i64 m0.1) := by rw [hwe]; exact ⟨by simp [go_sem], by simp [go_sem]⟩
  have e1 : Own we w1.heap.size 1 (.int .i64 m0.2) := by rw [hwe]; exact ⟨by simp [go_sem], by simp [go_sem]⟩
  have e2 : Own we w1.heap.size 2 (.int .i64 m1.1) := by rw [hwe]; exact ⟨by simp [go_sem], by simp [go_sem]⟩
  have e3 : Own we w1.heap.size 3 (.int .i64 m1.2) := by rw [hwe]; exact ⟨by simp [go_sem], by simp [go_sem]⟩
  have e4 : Own we w1.heap.size 4 (.int .i64 m2.1) := by rw [hwe]; exact ⟨by simp [go_sem], by simp [go_sem]⟩
  have e5 : Own we w1.heap.size 5 (.int .i64 m2.2) := by rw [hwe]; exact ⟨by simp [go_sem], by simp [go_sem]⟩
  have q0 : Own we (w.heap.size + 1 + 1) 0 (.int .i64 0) := by rw [hwe]; exact own_alloc o_r10
  have q1 : Own we (w.heap.size + 1 + 1) 1 (.int .i64 0) := by rw [hwe]; exact own_alloc o_r11
  have bw : Below w.heap.size w we := by rw [hwe]; exact belS
  have bsz := bw.size
  have lr := World.block_lt_of_cell? _ _ o_r10.1
  have nr1 : ¬ w1.heap.size = w.heap.size + 1 + 1 := by omega
  have nr2 : ¬ w.heap.size + 1 + 1 = w1.heap.size := by omega
  clear hwe hb1 hs1 C
  have ce0 := e0.1
  have ce1 := e1.1
  have ce2 := e2.1
  have ce3 := e3.1
  have ce4 := e4.1
  have ce5 := e5.1
  have z0 := pslot_of (w := we) (a := ⟨w.heap.size + 1 + 1, 0, none⟩) (v := .int .i64 0) q0.1 q0.2
  have z1 := pslot_of (w := we) (a := ⟨w.heap.size + 1 + 1, 1, none⟩) (v := .int .i64 0) q1.1 q1.2
  obtain ⟨hlt2, hlt3, hlt4, hlt5, hlt6, hlt7, hlt8, hlt9, hlt10, hlt11⟩ := below_add; go_region_held3 (fun w' => w'.cell? ⟨w1.heap.size, 0, none⟩ = some (.int .i64 m0.1) ∧ w'.cell? ⟨w1.heap.size, 1, none⟩ = some (.int .i64 m0.2) ∧ w'.cell? ⟨w1.heap.size, 2, none⟩ = some (.int .i64 m1.1) ∧ w'.cell? ⟨w1.heap.size, 3, none⟩ = some (.int .i64 m1.2) ∧ w'.cell? ⟨w1.heap.size, 4, none⟩ = some (.int .i64 m2.1) ∧ w'.cell? ⟨w1.heap.size, 5, none⟩ = some (.int .i64 m2.2) ∧ (w'.cell? ⟨w.heap.size + 1 + 1, 0, none⟩ = some (peek w' ⟨w.heap.size + 1 + 1, 0, none⟩) ∧ w'.frozen? ⟨w.heap.size + 1 + 1, 0, none⟩ = false) ∧ (w'.cell? ⟨w.heap.size + 1 + 1, 1, none⟩ = some (peek w' ⟨w.heap.size + 1 + 1, 1, none⟩) ∧ w'.frozen? ⟨w.heap.size + 1 + 1, 1, none⟩ = false)) (first | (with_reducible exact ((And.imp (cell_kept (by assumption)) (And.imp (cell_kept (by assumption)) (And.imp (cell_kept (by assumption)) (And.imp (cell_kept (by assumption)) (And.imp (cell_kept (by assumption)) (And.imp (cell_kept (by assumption)) (And.imp (pslot_kept (by assumption)) (pslot_kept (by assumption))))))))) (by assumption))) | (with_reducible exact ((And.imp (cell_alloc) (And.imp (cell_alloc) (And.imp (cell_alloc) (And.imp (cell_alloc) (And.imp (cell_alloc) (And.imp (cell_alloc) (And.imp (pslot_alloc) (pslot_alloc)))))))) (by assumption))) | (with_reducible exact ((And.imp (fun h => cell_far (by first | (simp; done) | (simp; omega) | (dsimp only; omega)) (cell_far (by first | (simp; done) | (simp; omega) | (dsimp only; omega)) h)) (And.imp (fun h => cell_far (by first | (simp; done) | (simp; omega) | (dsimp only; omega)) (cell_far (by first | (simp; done) | (simp; omega) | (dsimp only; omega)) h)) (And.imp (fun h => cell_far (by first | (simp; done) | (simp; omega) | (dsimp only; omega)) (cell_far (by first | (simp; done) | (simp; omega) | (dsimp only; omega)) h)) (And.imp (fun h => cell_far (by first | (simp; done) | (simp; omega) | (dsimp only; omega)) (cell_far (by first | (simp; done) | (simp; omega) | (dsimp only; omega)) h)) (And.imp (fun h => cell_far (by first | (simp; done) | (simp; omega) | (dsimp only; omega)) (cell_far (by first | (simp; done) | (simp; omega) | (dsimp only; omega)) h)) (And.imp (fun h => cell_far (by first | (simp; done) | (simp; omega) | (dsimp only; omega)) (cell_far (by first | (simp; done) | (simp; omega) | (dsimp only; omega)) h)) (And.imp (fun h => pslot_set (pslot_set h)) (fun h => pslot_set (pslot_set h))))))))) (by assumption))) | (refine ⟨?_, ?_, ?_, ?_, ?_, ?_, ?_, ?_⟩ <;> repeat (first | (with_reducible assumption) | (with_reducible refine cell_far (by first | (simp; done) | (simp; omega) | (dsimp only; omega)) ?_) | (with_reducible refine cell_drew ?_) | (with_reducible refine cell_drewN ?_) | (with_reducible refine cell_kept (by assumption) ?_) | (with_reducible exact pslot_of (by assumption) (by assumption)) | (with_reducible refine pslot_drew ?_) | (with_reducible refine pslot_kept (by assumption) ?_) | (with_reducible refine pslot_alloc ?_) | (simp [go_sem]; done) | (with_reducible refine cell_alloc ?_))) | (simp [go_sem, *]; done)) ((go_at_call 121; refine (F.out _ _ (by first | assumption | (simp [go_sem, *]; done)) (by first | assumption | (simp [go_sem, *]; done)) (by first | assumption | (simp [go_sem, *]; done)) (by first | assumption | (simp [go_sem, *]; done))).mono ?_; rintro e w1 ⟨rfl, hb⟩; have hs : _ ≤ w1.heap.size := hb.size; (try simp at hs); obtain ⟨hc, hf, hl, hn, hm⟩ := behind hb))
  all_goals (go_wp2; have o_j0 : Own (w1) (w.heap.size + 1 + 1) 0 (.int .i64 0) := ownJ; obtain ⟨j0, f_j0⟩ := o_j0; have o_j1 : Own (w1) (w.heap.size + 1 + 1) 1 (.int .i64 0) := ownJ; obtain ⟨j1, f_j1⟩ := o_j1; exact bodyPost_ret (v := .agg #[.int .i64 s1.1, .int .i64 s1.2]) (by simp [results, Try.results64, go_sem, j0, j1]) rfl ⟨rfl, belS⟩)
end Go.Proofs.Ytmikjgbojknlnaa
