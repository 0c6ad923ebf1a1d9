/- Contracts of directions of vectors, program and model. Conditions: numbers are int64. -/
import Derived.Test.YtmikjgbojknlnaaVeC
import Derived.Test.YtmikjgbojknlnaaVeU
import Derived.Test.YtmikjgbojknlnaaVeM
import Derived.Test.YtmikjgbojknlnaaVeW
import Derived.Test.YtmikjgbojknlnaaIvX
import Derived.Test.YtmikjgbojknlnaaLat
import Derived.Deep.RegionHeld3
import Derived.Deep.DeepCutAuto
import Derived.Outline
namespace Go.Proofs.Ytmikjgbojknlnaa
open Go.ChangeShapes Go.WideShapes Go.ChangeAt Go.RowKit
set_option linter.unusedVariables false
set_option maxRecDepth 100000
set_option linter.unusedSimpArgs false
set_option maxHeartbeats 1000000
theorem nrm_ok (x y z : Iv) : Ok (nrmI x y z) := inI_ok (kn_in _ _)
set_option maxHeartbeats 16000000 in
theorem UnitV_any (x y z : Iv) (ox : Ok x) (oy : Ok y) (oz : Ok z) (w : World) : Calls Try.prog 70 #[.agg #[.int .i64 x.1, .int .i64 x.2, .int .i64 y.1, .int .i64 y.2, .int .i64 z.1, .int .i64 z.2]] w fun e w' =>
    e = .returned (.agg #[.int .i64 (divI x (nrmI x y z)).1, .int .i64 (divI x (nrmI x y z)).2, .int .i64 (divI y (nrmI x y z)).1, .int .i64 (divI y (nrmI x y z)).2, .int .i64 (divI z (nrmI x y z)).1, .int .i64 (divI z (nrmI x y z)).2]) ∧ Below w.heap.size w w' := by
  have N := Lib.hid (fun w => NormV_any x y z w)
  have O := Lib.hid (fun w => overAll_any x y z (nrmI x y z) ox oy oz (nrm_ok x y z) w)
  clear ox oy oz
  generalize nrmI x y z = n at *
  generalize divI x n = d0 at *
  generalize divI y n = d1 at *
  generalize divI z n = d2 at *
  go_enter Try.func70, Try.ntmps70
  go_upto_region 1 with fail
  refine AnyS.enter (K := RowsK w [(w.heap.size, [.int .i64 x.1, .int .i64 x.2, .int .i64 y.1, .int .i64 y.2, .int .i64 z.1, .int .i64 z.2]), (w.heap.size + 1, [.int .i64 0, .int .i64 0, .int .i64 0, .int .i64 0, .int .i64 0, .int .i64 0])] (fun _ => True)) (s := 4) (by kernel_rfl) ⟨?_, trivial, belS⟩ ?_
  · intro r hr
    simp only [List.mem_cons, List.not_mem_nil, or_false] at hr
    rcases hr with rfl | rfl
    all_goals (dsimp only; repeat (first | (with_reducible assumption) | (with_reducible exact RowAt.drew (by assumption)) | exact row_nil | refine row_cons (by first | (with_reducible assumption) | (with_reducible exact own_drew (by assumption)) | exact ⟨by simp [go_sem], by simp [go_sem]⟩) ?_))
  intro wd k0
  have lw : w.heap.size ≤ wd.heap.size := k0.2.2.size
  have lt0 : w.heap.size < wd.heap.size := World.block_lt_of_cell? _ _ (((k0.row (b := w.heap.size) (vs := [.int .i64 x.1, .int .i64 x.2, .int .i64 y.1, .int .i64 y.2, .int .i64 z.1, .int .i64 z.2]) (by simp)).at 0 rfl).1)
  have lt1 : w.heap.size + 1 < wd.heap.size := World.block_lt_of_cell? _ _ (((k0.row (b := w.heap.size + 1) (vs := [.int .i64 0, .int .i64 0, .int .i64 0, .int .i64 0, .int .i64 0, .int .i64 0]) (by simp)).at 0 rfl).1)
  refine AnyS.take (i := 0) (v := .agg #[.int .i64 x.1, .int .i64 x.2, .int .i64 y.1, .int .i64 y.2, .int .i64 z.1, .int .i64 z.2]) (T := RowsK w [(w.heap.size, [.int .i64 x.1, .int .i64 x.2, .int .i64 y.1, .int .i64 y.2, .int .i64 z.1, .int .i64 z.2]), (w.heap.size + 1, [.int .i64 0, .int .i64 0, .int .i64 0, .int .i64 0, .int .i64 0, .int .i64 0])] (fun _ => True)) [4, 3] rfl (by kernel_rfl) (by kernel_rfl) (by kernel_rfl) (by kernel_rfl) (by kernel_rfl) (fun _ _ _ h => h) (fun L u q h => h (q 4 (by simp))) (fun L u h => OneS.less (by decide) h) (Or.inl ⟨by rfl, ?_⟩) (fun _ => k0) ?_
  · intro u hu
    have hr0 : RowAt u w.heap.size 0 [.int .i64 x.1, .int .i64 x.2, .int .i64 y.1, .int .i64 y.2, .int .i64 z.1, .int .i64 z.2] := hu.row (by simp)
    have c0_0 := (hr0.at 0 rfl).1
    have c0_1 := (hr0.at 1 rfl).1
    have c0_2 := (hr0.at 2 rfl).1
    have c0_3 := (hr0.at 3 rfl).1
    have c0_4 := (hr0.at 4 rfl).1
    have c0_5 := (hr0.at 5 rfl).1
    have hr1 : RowAt u (w.heap.size + 1) 0 [.int .i64 0, .int .i64 0, .int .i64 0, .int .i64 0, .int .i64 0, .int .i64 0] := hu.row (by simp)
    have c1_0 := (hr1.at 0 rfl).1
    have c1_1 := (hr1.at 1 rfl).1
    have c1_2 := (hr1.at 2 rfl).1
    have c1_3 := (hr1.at 3 rfl).1
    have c1_4 := (hr1.at 4 rfl).1
    have c1_5 := (hr1.at 5 rfl).1
    clear hu
    go_simp
  try simp only [Act.put, List.getElem_toArray, List.getElem_cons_zero, List.getElem_cons_succ, List.setIfInBounds_toArray, List.set_cons_zero, List.set_cons_succ]
  refine AnyS.take (i := 1) (v := .agg #[.int .i64 x.1, .int .i64 x.2, .int .i64 y.1, .int .i64 y.2, .int .i64 z.1, .int .i64 z.2]) (T := RowsK w [(w.heap.size, [.int .i64 x.1, .int .i64 x.2, .int .i64 y.1, .int .i64 y.2, .int .i64 z.1, .int .i64 z.2]), (w.heap.size + 1, [.int .i64 0, .int .i64 0, .int .i64 0, .int .i64 0, .int .i64 0, .int .i64 0])] (fun _ => True)) [4, 2, 3] rfl (by kernel_rfl) (by kernel_rfl) (by kernel_rfl) (by kernel_rfl) (by kernel_rfl) (fun _ _ _ h => h) (fun L u q h => h (q 4 (by simp))) (fun L u h => OneS.less (by decide) h) (Or.inl ⟨by rfl, ?_⟩) (fun _ => k0) ?_
  · intro u hu
    have hr0 : RowAt u w.heap.size 0 [.int .i64 x.1, .int .i64 x.2, .int .i64 y.1, .int .i64 y.2, .int .i64 z.1, .int .i64 z.2] := hu.row (by simp)
    have c0_0 := (hr0.at 0 rfl).1
    have c0_1 := (hr0.at 1 rfl).1
    have c0_2 := (hr0.at 2 rfl).1
    have c0_3 := (hr0.at 3 rfl).1
    have c0_4 := (hr0.at 4 rfl).1
    have c0_5 := (hr0.at 5 rfl).1
    have hr1 : RowAt u (w.heap.size + 1) 0 [.int .i64 0, .int .i64 0, .int .i64 0, .int .i64 0, .int .i64 0, .int .i64 0] := hu.row (by simp)
    have c1_0 := (hr1.at 0 rfl).1
    have c1_1 := (hr1.at 1 rfl).1
    have c1_2 := (hr1.at 2 rfl).1
    have c1_3 := (hr1.at 3 rfl).1
    have c1_4 := (hr1.at 4 rfl).1
    have c1_5 := (hr1.at 5 rfl).1
    clear hu
    go_simp
  try simp only [Act.put, List.getElem_toArray, List.getElem_cons_zero, List.getElem_cons_succ, List.setIfInBounds_toArray, List.set_cons_zero, List.set_cons_succ]
  refine AnyS.std (n := 1) [(2, 5, .agg #[.int .i64 n.1, .int .i64 n.2]), (3, 6, .agg #[.int .i64 d0.1, .int .i64 d0.2, .int .i64 d1.1, .int .i64 d1.2, .int .i64 d2.1, .int .i64 d2.2])] [] (RowsK w [(w.heap.size, [.int .i64 x.1, .int .i64 x.2, .int .i64 y.1, .int .i64 y.2, .int .i64 z.1, .int .i64 z.2]), (w.heap.size + 1, [.int .i64 0, .int .i64 0, .int .i64 0, .int .i64 0, .int .i64 0, .int .i64 0])] (fun _ => True)) (wd.heap.size) (fun u u' h hb => h.kept (fun _ _ h _ => h) hb) (by kernel_rfl) (by kernel_rfl) (by kernel_rfl) (by kernel_rfl) (fun u L h _ => h) k0 (Nat.le_refl _) ?_ ?_ ?_
  · intro c hc t u ku lu hp
    simp only [List.mem_cons, List.not_mem_nil, or_false] at hc
    rcases hc with rfl | rfl
    · clear hp
      simp only [LatC.op, LatC.dst, LatC.val, LatB.op, LatB.dst, LatB.zs, LatB.ty, List.map, List.cons_append, List.nil_append, putA, Act.put, List.setIfInBounds_toArray, List.set_cons_zero, List.set_cons_succ]
      refine wpOp_step rfl (fun K' hK' => ?_)
      have hK := Lib.hid hK'
      clear hK'
      go_simp
      with_reducible refine (N.out _).mono ?_
      rintro _ u1 ⟨rfl, hb1⟩
      go_wp2_with fail
      exact hK.out _ _ ⟨rfl, hb1⟩
    · have q5 : t 5 = .agg #[.int .i64 n.1, .int .i64 n.2] := hp (2, 5, .agg #[.int .i64 n.1, .int .i64 n.2]) (by simp) (by kernel_rfl)
      clear hp
      simp only [LatC.op, LatC.dst, LatC.val, LatB.op, LatB.dst, LatB.zs, LatB.ty, List.map, List.cons_append, List.nil_append, putA, Act.put, List.setIfInBounds_toArray, List.set_cons_zero, List.set_cons_succ]
      simp only [q5]
      refine wpOp_step rfl (fun K' hK' => ?_)
      have hK := Lib.hid hK'
      clear hK'
      go_simp
      with_reducible refine (O.out _).mono ?_
      rintro _ u1 ⟨rfl, hb1⟩
      go_wp2_with fail
      exact hK.out _ _ ⟨rfl, hb1⟩
  · intro b hb; cases hb
  intro t u g ku lu hcs hbs hne
  have t5 : t 5 = .agg #[.int .i64 n.1, .int .i64 n.2] := hcs (2, 5, .agg #[.int .i64 n.1, .int .i64 n.2]) (by simp)
  have t6 : t 6 = .agg #[.int .i64 d0.1, .int .i64 d0.2, .int .i64 d1.1, .int .i64 d1.2, .int .i64 d2.1, .int .i64 d2.2] := hcs (3, 6, .agg #[.int .i64 d0.1, .int .i64 d0.2, .int .i64 d1.1, .int .i64 d1.2, .int .i64 d2.1, .int .i64 d2.2]) (by simp)
  clear hcs hbs hne
  simp only [LatC.op, LatC.dst, LatC.val, LatB.op, LatB.dst, LatB.zs, LatB.ty, List.map, List.cons_append, List.nil_append, setL, if_true, putA, Act.put, List.setIfInBounds_toArray, List.set_cons_zero, List.set_cons_succ, t5, t6]
  clear t5 t6
  have rz : RowAt u (w.heap.size + 1) 0 [.int .i64 0, .int .i64 0, .int .i64 0, .int .i64 0, .int .i64 0, .int .i64 0] := ku.row (by simp)
  have bk := ku.2.2
  have sc0 := (rz.at 0 rfl).1
  have sc1 := (rz.at 1 rfl).1
  have sc2 := (rz.at 2 rfl).1
  have sc3 := (rz.at 3 rfl).1
  have sc4 := (rz.at 4 rfl).1
  have sc5 := (rz.at 5 rfl).1
  have sf0 := (rz.at 0 rfl).2
  have sf1 := (rz.at 1 rfl).2
  have sf2 := (rz.at 2 rfl).2
  have sf3 := (rz.at 3 rfl).2
  have sf4 := (rz.at 4 rfl).2
  have sf5 := (rz.at 5 rfl).2
  refine AnyS.one (i := 4) (by kernel_rfl) (AnyS.comes rfl (fun K hK => ?_))
  go_simp
  refine hK.out _ _ (fun h => absurd h (by decide)) ?_
  clear hK K
  try simp only [Act.put, List.getElem_toArray, List.getElem_cons_zero, List.getElem_cons_succ, List.setIfInBounds_toArray, List.set_cons_zero, List.set_cons_succ]
  refine AnyS.done (by kernel_rfl) ?_ _
  have bsz := bk.size
  clear ku lu rz k0
  go_wp2
  exact bodyPost_ret (v := .agg #[.int .i64 d0.1, .int .i64 d0.2, .int .i64 d1.1, .int .i64 d1.2, .int .i64 d2.1, .int .i64 d2.2]) (by simp [results, Try.results70, go_sem, sc0, sf0, sc1, sf1, sc2, sf2, sc3, sf3, sc4, sf4, sc5, sf5]) rfl ⟨rfl, (by repeat (first | (with_reducible assumption) | (with_reducible refine Below.setCell ?_ (by dsimp only; omega) _)))⟩
set_option maxHeartbeats 16000000 in
theorem sUnitV_any (x y z : Iv) (w : World) : Calls Try.prog 69 #[.agg #[.int .i64 x.1, .int .i64 x.2, .int .i64 y.1, .int .i64 y.2, .int .i64 z.1, .int .i64 z.2]] w fun e w' =>
    e = .returned (.agg #[.int .i64 (divI x (nrmI x y z)).1, .int .i64 (divI x (nrmI x y z)).2, .int .i64 (divI y (nrmI x y z)).1, .int .i64 (divI y (nrmI x y z)).2, .int .i64 (divI z (nrmI x y z)).1, .int .i64 (divI z (nrmI x y z)).2]) ∧ Below w.heap.size w w' := by
  have N := Lib.hid (fun w => sNormV_any x y z w)
  have D0 := Lib.hid (fun w => sDivI_any x (nrmI x y z) w)
  have D1 := Lib.hid (fun w => sDivI_any y (nrmI x y z) w)
  have D2 := Lib.hid (fun w => sDivI_any z (nrmI x y z) w)
  generalize nrmI x y z = n at *
  generalize divI x n = d0 at *
  generalize divI y n = d1 at *
  generalize divI z n = d2 at *
  go_enter Try.func69, Try.ntmps69
  go_wp2_with fail
  refine (N.out _).mono ?_
  rintro e w1 ⟨rfl, hb1⟩
  have hs1 : _ ≤ w1.heap.size := hb1.size
  try simp at hs1
  have o_a10 : Own (w1) (w.heap.size) 0 (.int .i64 x.1) := ownS; have a10 := o_a10.1; have f_a10 := o_a10.2; have o_a11 : Own (w1) (w.heap.size) 1 (.int .i64 x.2) := ownS; have a11 := o_a11.1; have f_a11 := o_a11.2; have o_a12 : Own (w1) (w.heap.size) 2 (.int .i64 y.1) := ownS; have a12 := o_a12.1; have f_a12 := o_a12.2; have o_a13 : Own (w1) (w.heap.size) 3 (.int .i64 y.2) := ownS; have a13 := o_a13.1; have f_a13 := o_a13.2; have o_a14 : Own (w1) (w.heap.size) 4 (.int .i64 z.1) := ownS; have a14 := o_a14.1; have f_a14 := o_a14.2; have o_a15 : Own (w1) (w.heap.size) 5 (.int .i64 z.2) := ownS; have a15 := o_a15.1; have f_a15 := o_a15.2
  have o_r10 : Own (w1) (w.heap.size + 1) 0 (.int .i64 0) := ownS; have r10 := o_r10.1; have f_r10 := o_r10.2; have o_r11 : Own (w1) (w.heap.size + 1) 1 (.int .i64 0) := ownS; have r11 := o_r11.1; have f_r11 := o_r11.2; have o_r12 : Own (w1) (w.heap.size + 1) 2 (.int .i64 0) := ownS; have r12 := o_r12.1; have f_r12 := o_r12.2; have o_r13 : Own (w1) (w.heap.size + 1) 3 (.int .i64 0) := ownS; have r13 := o_r13.1; have f_r13 := o_r13.2; have o_r14 : Own (w1) (w.heap.size + 1) 4 (.int .i64 0) := ownS; have r14 := o_r14.1; have f_r14 := o_r14.2; have o_r15 : Own (w1) (w.heap.size + 1) 5 (.int .i64 0) := ownS; have r15 := o_r15.1; have f_r15 := o_r15.2
  go_upto_region 2 with fail
  obtain ⟨we, hwe⟩ : ∃ q : World, q = w1.alloc (.cells #[.int .i64 n.1, .int .i64 n.2] 31) := ⟨_, rfl⟩
  rw [← hwe]
  have RA : RowAt we (w.heap.size) 0 [.int .i64 x.1, .int .i64 x.2, .int .i64 y.1, .int .i64 y.2, .int .i64 z.1, .int .i64 z.2] := by rw [hwe]; exact RowAt.alloc (row_cons o_a10 (row_cons o_a11 (row_cons o_a12 (row_cons o_a13 (row_cons o_a14 (row_cons o_a15 (row_nil)))))))
  have RZ : RowAt we (w.heap.size + 1) 0 [.int .i64 0, .int .i64 0, .int .i64 0, .int .i64 0, .int .i64 0, .int .i64 0] := by rw [hwe]; exact RowAt.alloc (row_cons o_r10 (row_cons o_r11 (row_cons o_r12 (row_cons o_r13 (row_cons o_r14 (row_cons o_r15 (row_nil)))))))
  have RN : RowAt we w1.heap.size 0 [.int .i64 n.1, .int .i64 n.2] := by rw [hwe]; exact row_new (vs := [.int .i64 n.1, .int .i64 n.2]) rfl
  have bw : Below w.heap.size w we := by rw [hwe]; exact belS
  clear hwe hb1 hs1
  refine AnyS.enter (K := RowsK w [(w.heap.size, [.int .i64 x.1, .int .i64 x.2, .int .i64 y.1, .int .i64 y.2, .int .i64 z.1, .int .i64 z.2]), (w.heap.size + 1, [.int .i64 0, .int .i64 0, .int .i64 0, .int .i64 0, .int .i64 0, .int .i64 0]), (w1.heap.size, [.int .i64 n.1, .int .i64 n.2])] (fun _ => True)) (s := 13) (by kernel_rfl) ⟨?_, trivial, belS⟩ ?_
  · intro r hr
    simp only [List.mem_cons, List.not_mem_nil, or_false] at hr
    rcases hr with rfl | rfl | rfl
    all_goals (dsimp only; repeat (first | (with_reducible assumption) | (with_reducible exact RowAt.drew (by assumption)) | exact row_nil | refine row_cons (by first | (with_reducible assumption) | (with_reducible exact own_drew (by assumption)) | exact ⟨by simp [go_sem], by simp [go_sem]⟩) ?_))
  intro wd k0
  have lw : w.heap.size ≤ wd.heap.size := k0.2.2.size
  have lt0 : w.heap.size < wd.heap.size := World.block_lt_of_cell? _ _ (((k0.row (b := w.heap.size) (vs := [.int .i64 x.1, .int .i64 x.2, .int .i64 y.1, .int .i64 y.2, .int .i64 z.1, .int .i64 z.2]) (by simp)).at 0 rfl).1)
  have lt1 : w.heap.size + 1 < wd.heap.size := World.block_lt_of_cell? _ _ (((k0.row (b := w.heap.size + 1) (vs := [.int .i64 0, .int .i64 0, .int .i64 0, .int .i64 0, .int .i64 0, .int .i64 0]) (by simp)).at 0 rfl).1)
  have lt2 : w1.heap.size < wd.heap.size := World.block_lt_of_cell? _ _ (((k0.row (b := w1.heap.size) (vs := [.int .i64 n.1, .int .i64 n.2]) (by simp)).at 0 rfl).1)
  refine AnyS.take (i := 0) (v := .pointer (some ⟨w.heap.size, 0, none⟩)) (T := fun _ => True) [] rfl (by kernel_rfl) (by kernel_rfl) (by kernel_rfl) (by kernel_rfl) (by kernel_rfl) (fun _ _ _ h => h) (fun L u q h => trivial) (fun L u h => OneS.less (by decide) h) (Or.inl ⟨by rfl, ?_⟩) (fun _ => k0) ?_
  · intro u hu
    clear hu
    go_simp
  try simp only [Act.put, List.getElem_toArray, List.getElem_cons_zero, List.getElem_cons_succ, List.setIfInBounds_toArray, List.set_cons_zero, List.set_cons_succ]
  refine AnyS.take (i := 1) (v := .agg #[.int .i64 x.1, .int .i64 x.2]) (T := RowsK w [(w.heap.size, [.int .i64 x.1, .int .i64 x.2, .int .i64 y.1, .int .i64 y.2, .int .i64 z.1, .int .i64 z.2]), (w.heap.size + 1, [.int .i64 0, .int .i64 0, .int .i64 0, .int .i64 0, .int .i64 0, .int .i64 0]), (w1.heap.size, [.int .i64 n.1, .int .i64 n.2])] (fun _ => True)) [13, 3, 7, 11] rfl (by kernel_rfl) (by kernel_rfl) (by kernel_rfl) (by kernel_rfl) (by kernel_rfl) (fun _ _ _ h => h) (fun L u q h => h (q 13 (by simp))) (fun L u h => OneS.less (by decide) h) (Or.inl ⟨by rfl, ?_⟩) (fun _ => k0) ?_
  · intro u hu
    have hr0 : RowAt u w.heap.size 0 [.int .i64 x.1, .int .i64 x.2, .int .i64 y.1, .int .i64 y.2, .int .i64 z.1, .int .i64 z.2] := hu.row (by simp)
    have c0_0 := (hr0.at 0 rfl).1
    have c0_1 := (hr0.at 1 rfl).1
    have c0_2 := (hr0.at 2 rfl).1
    have c0_3 := (hr0.at 3 rfl).1
    have c0_4 := (hr0.at 4 rfl).1
    have c0_5 := (hr0.at 5 rfl).1
    have hr1 : RowAt u (w.heap.size + 1) 0 [.int .i64 0, .int .i64 0, .int .i64 0, .int .i64 0, .int .i64 0, .int .i64 0] := hu.row (by simp)
    have c1_0 := (hr1.at 0 rfl).1
    have c1_1 := (hr1.at 1 rfl).1
    have c1_2 := (hr1.at 2 rfl).1
    have c1_3 := (hr1.at 3 rfl).1
    have c1_4 := (hr1.at 4 rfl).1
    have c1_5 := (hr1.at 5 rfl).1
    have hr2 : RowAt u w1.heap.size 0 [.int .i64 n.1, .int .i64 n.2] := hu.row (by simp)
    have c2_0 := (hr2.at 0 rfl).1
    have c2_1 := (hr2.at 1 rfl).1
    clear hu
    go_simp
  try simp only [Act.put, List.getElem_toArray, List.getElem_cons_zero, List.getElem_cons_succ, List.setIfInBounds_toArray, List.set_cons_zero, List.set_cons_succ]
  refine AnyS.take (i := 2) (v := .agg #[.int .i64 n.1, .int .i64 n.2]) (T := RowsK w [(w.heap.size, [.int .i64 x.1, .int .i64 x.2, .int .i64 y.1, .int .i64 y.2, .int .i64 z.1, .int .i64 z.2]), (w.heap.size + 1, [.int .i64 0, .int .i64 0, .int .i64 0, .int .i64 0, .int .i64 0, .int .i64 0]), (w1.heap.size, [.int .i64 n.1, .int .i64 n.2])] (fun _ => True)) [13, 3, 7, 11] rfl (by kernel_rfl) (by kernel_rfl) (by kernel_rfl) (by kernel_rfl) (by kernel_rfl) (fun _ _ _ h => h) (fun L u q h => h (q 13 (by simp))) (fun L u h => OneS.less (by decide) h) (Or.inl ⟨by rfl, ?_⟩) (fun _ => k0) ?_
  · intro u hu
    have hr0 : RowAt u w.heap.size 0 [.int .i64 x.1, .int .i64 x.2, .int .i64 y.1, .int .i64 y.2, .int .i64 z.1, .int .i64 z.2] := hu.row (by simp)
    have c0_0 := (hr0.at 0 rfl).1
    have c0_1 := (hr0.at 1 rfl).1
    have c0_2 := (hr0.at 2 rfl).1
    have c0_3 := (hr0.at 3 rfl).1
    have c0_4 := (hr0.at 4 rfl).1
    have c0_5 := (hr0.at 5 rfl).1
    have hr1 : RowAt u (w.heap.size + 1) 0 [.int .i64 0, .int .i64 0, .int .i64 0, .int .i64 0, .int .i64 0, .int .i64 0] := hu.row (by simp)
    have c1_0 := (hr1.at 0 rfl).1
    have c1_1 := (hr1.at 1 rfl).1
    have c1_2 := (hr1.at 2 rfl).1
    have c1_3 := (hr1.at 3 rfl).1
    have c1_4 := (hr1.at 4 rfl).1
    have c1_5 := (hr1.at 5 rfl).1
    have hr2 : RowAt u w1.heap.size 0 [.int .i64 n.1, .int .i64 n.2] := hu.row (by simp)
    have c2_0 := (hr2.at 0 rfl).1
    have c2_1 := (hr2.at 1 rfl).1
    clear hu
    go_simp
  try simp only [Act.put, List.getElem_toArray, List.getElem_cons_zero, List.getElem_cons_succ, List.setIfInBounds_toArray, List.set_cons_zero, List.set_cons_succ]
  refine AnyS.take (i := 4) (v := .pointer (some ⟨w.heap.size, 2, none⟩)) (T := fun _ => True) [] rfl (by kernel_rfl) (by kernel_rfl) (by kernel_rfl) (by kernel_rfl) (by kernel_rfl) (fun _ _ _ h => h) (fun L u q h => trivial) (fun L u h => OneS.less (by decide) h) (Or.inl ⟨by rfl, ?_⟩) (fun _ => k0) ?_
  · intro u hu
    clear hu
    go_simp
  try simp only [Act.put, List.getElem_toArray, List.getElem_cons_zero, List.getElem_cons_succ, List.setIfInBounds_toArray, List.set_cons_zero, List.set_cons_succ]
  refine AnyS.take (i := 5) (v := .agg #[.int .i64 y.1, .int .i64 y.2]) (T := RowsK w [(w.heap.size, [.int .i64 x.1, .int .i64 x.2, .int .i64 y.1, .int .i64 y.2, .int .i64 z.1, .int .i64 z.2]), (w.heap.size + 1, [.int .i64 0, .int .i64 0, .int .i64 0, .int .i64 0, .int .i64 0, .int .i64 0]), (w1.heap.size, [.int .i64 n.1, .int .i64 n.2])] (fun _ => True)) [13, 7, 11] rfl (by kernel_rfl) (by kernel_rfl) (by kernel_rfl) (by kernel_rfl) (by kernel_rfl) (fun _ _ _ h => h) (fun L u q h => h (q 13 (by simp))) (fun L u h => OneS.less (by decide) h) (Or.inl ⟨by rfl, ?_⟩) (fun _ => k0) ?_
  · intro u hu
    have hr0 : RowAt u w.heap.size 0 [.int .i64 x.1, .int .i64 x.2, .int .i64 y.1, .int .i64 y.2, .int .i64 z.1, .int .i64 z.2] := hu.row (by simp)
    have c0_0 := (hr0.at 0 rfl).1
    have c0_1 := (hr0.at 1 rfl).1
    have c0_2 := (hr0.at 2 rfl).1
    have c0_3 := (hr0.at 3 rfl).1
    have c0_4 := (hr0.at 4 rfl).1
    have c0_5 := (hr0.at 5 rfl).1
    have hr1 : RowAt u (w.heap.size + 1) 0 [.int .i64 0, .int .i64 0, .int .i64 0, .int .i64 0, .int .i64 0, .int .i64 0] := hu.row (by simp)
    have c1_0 := (hr1.at 0 rfl).1
    have c1_1 := (hr1.at 1 rfl).1
    have c1_2 := (hr1.at 2 rfl).1
    have c1_3 := (hr1.at 3 rfl).1
    have c1_4 := (hr1.at 4 rfl).1
    have c1_5 := (hr1.at 5 rfl).1
    have hr2 : RowAt u w1.heap.size 0 [.int .i64 n.1, .int .i64 n.2] := hu.row (by simp)
    have c2_0 := (hr2.at 0 rfl).1
    have c2_1 := (hr2.at 1 rfl).1
    clear hu
    go_simp
  try simp only [Act.put, List.getElem_toArray, List.getElem_cons_zero, List.getElem_cons_succ, List.setIfInBounds_toArray, List.set_cons_zero, List.set_cons_succ]
  refine AnyS.take (i := 6) (v := .agg #[.int .i64 n.1, .int .i64 n.2]) (T := RowsK w [(w.heap.size, [.int .i64 x.1, .int .i64 x.2, .int .i64 y.1, .int .i64 y.2, .int .i64 z.1, .int .i64 z.2]), (w.heap.size + 1, [.int .i64 0, .int .i64 0, .int .i64 0, .int .i64 0, .int .i64 0, .int .i64 0]), (w1.heap.size, [.int .i64 n.1, .int .i64 n.2])] (fun _ => True)) [13, 7, 11] rfl (by kernel_rfl) (by kernel_rfl) (by kernel_rfl) (by kernel_rfl) (by kernel_rfl) (fun _ _ _ h => h) (fun L u q h => h (q 13 (by simp))) (fun L u h => OneS.less (by decide) h) (Or.inl ⟨by rfl, ?_⟩) (fun _ => k0) ?_
  · intro u hu
    have hr0 : RowAt u w.heap.size 0 [.int .i64 x.1, .int .i64 x.2, .int .i64 y.1, .int .i64 y.2, .int .i64 z.1, .int .i64 z.2] := hu.row (by simp)
    have c0_0 := (hr0.at 0 rfl).1
    have c0_1 := (hr0.at 1 rfl).1
    have c0_2 := (hr0.at 2 rfl).1
    have c0_3 := (hr0.at 3 rfl).1
    have c0_4 := (hr0.at 4 rfl).1
    have c0_5 := (hr0.at 5 rfl).1
    have hr1 : RowAt u (w.heap.size + 1) 0 [.int .i64 0, .int .i64 0, .int .i64 0, .int .i64 0, .int .i64 0, .int .i64 0] := hu.row (by simp)
    have c1_0 := (hr1.at 0 rfl).1
    have c1_1 := (hr1.at 1 rfl).1
    have c1_2 := (hr1.at 2 rfl).1
    have c1_3 := (hr1.at 3 rfl).1
    have c1_4 := (hr1.at 4 rfl).1
    have c1_5 := (hr1.at 5 rfl).1
    have hr2 : RowAt u w1.heap.size 0 [.int .i64 n.1, .int .i64 n.2] := hu.row (by simp)
    have c2_0 := (hr2.at 0 rfl).1
    have c2_1 := (hr2.at 1 rfl).1
    clear hu
    go_simp
  try simp only [Act.put, List.getElem_toArray, List.getElem_cons_zero, List.getElem_cons_succ, List.setIfInBounds_toArray, List.set_cons_zero, List.set_cons_succ]
  refine AnyS.take (i := 8) (v := .pointer (some ⟨w.heap.size, 4, none⟩)) (T := fun _ => True) [] rfl (by kernel_rfl) (by kernel_rfl) (by kernel_rfl) (by kernel_rfl) (by kernel_rfl) (fun _ _ _ h => h) (fun L u q h => trivial) (fun L u h => OneS.less (by decide) h) (Or.inl ⟨by rfl, ?_⟩) (fun _ => k0) ?_
  · intro u hu
    clear hu
    go_simp
  try simp only [Act.put, List.getElem_toArray, List.getElem_cons_zero, List.getElem_cons_succ, List.setIfInBounds_toArray, List.set_cons_zero, List.set_cons_succ]
  refine AnyS.take (i := 9) (v := .agg #[.int .i64 z.1, .int .i64 z.2]) (T := RowsK w [(w.heap.size, [.int .i64 x.1, .int .i64 x.2, .int .i64 y.1, .int .i64 y.2, .int .i64 z.1, .int .i64 z.2]), (w.heap.size + 1, [.int .i64 0, .int .i64 0, .int .i64 0, .int .i64 0, .int .i64 0, .int .i64 0]), (w1.heap.size, [.int .i64 n.1, .int .i64 n.2])] (fun _ => True)) [13, 11] rfl (by kernel_rfl) (by kernel_rfl) (by kernel_rfl) (by kernel_rfl) (by kernel_rfl) (fun _ _ _ h => h) (fun L u q h => h (q 13 (by simp))) (fun L u h => OneS.less (by decide) h) (Or.inl ⟨by rfl, ?_⟩) (fun _ => k0) ?_
  · intro u hu
    have hr0 : RowAt u w.heap.size 0 [.int .i64 x.1, .int .i64 x.2, .int .i64 y.1, .int .i64 y.2, .int .i64 z.1, .int .i64 z.2] := hu.row (by simp)
    have c0_0 := (hr0.at 0 rfl).1
    have c0_1 := (hr0.at 1 rfl).1
    have c0_2 := (hr0.at 2 rfl).1
    have c0_3 := (hr0.at 3 rfl).1
    have c0_4 := (hr0.at 4 rfl).1
    have c0_5 := (hr0.at 5 rfl).1
    have hr1 : RowAt u (w.heap.size + 1) 0 [.int .i64 0, .int .i64 0, .int .i64 0, .int .i64 0, .int .i64 0, .int .i64 0] := hu.row (by simp)
    have c1_0 := (hr1.at 0 rfl).1
    have c1_1 := (hr1.at 1 rfl).1
    have c1_2 := (hr1.at 2 rfl).1
    have c1_3 := (hr1.at 3 rfl).1
    have c1_4 := (hr1.at 4 rfl).1
    have c1_5 := (hr1.at 5 rfl).1
    have hr2 : RowAt u w1.heap.size 0 [.int .i64 n.1, .int .i64 n.2] := hu.row (by simp)
    have c2_0 := (hr2.at 0 rfl).1
    have c2_1 := (hr2.at 1 rfl).1
    clear hu
    go_simp
  try simp only [Act.put, List.getElem_toArray, List.getElem_cons_zero, List.getElem_cons_succ, List.setIfInBounds_toArray, List.set_cons_zero, List.set_cons_succ]
  refine AnyS.take (i := 10) (v := .agg #[.int .i64 n.1, .int .i64 n.2]) (T := RowsK w [(w.heap.size, [.int .i64 x.1, .int .i64 x.2, .int .i64 y.1, .int .i64 y.2, .int .i64 z.1, .int .i64 z.2]), (w.heap.size + 1, [.int .i64 0, .int .i64 0, .int .i64 0, .int .i64 0, .int .i64 0, .int .i64 0]), (w1.heap.size, [.int .i64 n.1, .int .i64 n.2])] (fun _ => True)) [13, 11] rfl (by kernel_rfl) (by kernel_rfl) (by kernel_rfl) (by kernel_rfl) (by kernel_rfl) (fun _ _ _ h => h) (fun L u q h => h (q 13 (by simp))) (fun L u h => OneS.less (by decide) h) (Or.inl ⟨by rfl, ?_⟩) (fun _ => k0) ?_
  · intro u hu
    have hr0 : RowAt u w.heap.size 0 [.int .i64 x.1, .int .i64 x.2, .int .i64 y.1, .int .i64 y.2, .int .i64 z.1, .int .i64 z.2] := hu.row (by simp)
    have c0_0 := (hr0.at 0 rfl).1
    have c0_1 := (hr0.at 1 rfl).1
    have c0_2 := (hr0.at 2 rfl).1
    have c0_3 := (hr0.at 3 rfl).1
    have c0_4 := (hr0.at 4 rfl).1
    have c0_5 := (hr0.at 5 rfl).1
    have hr1 : RowAt u (w.heap.size + 1) 0 [.int .i64 0, .int .i64 0, .int .i64 0, .int .i64 0, .int .i64 0, .int .i64 0] := hu.row (by simp)
    have c1_0 := (hr1.at 0 rfl).1
    have c1_1 := (hr1.at 1 rfl).1
    have c1_2 := (hr1.at 2 rfl).1
    have c1_3 := (hr1.at 3 rfl).1
    have c1_4 := (hr1.at 4 rfl).1
    have c1_5 := (hr1.at 5 rfl).1
    have hr2 : RowAt u w1.heap.size 0 [.int .i64 n.1, .int .i64 n.2] := hu.row (by simp)
    have c2_0 := (hr2.at 0 rfl).1
    have c2_1 := (hr2.at 1 rfl).1
    clear hu
    go_simp
  try simp only [Act.put, List.getElem_toArray, List.getElem_cons_zero, List.getElem_cons_succ, List.setIfInBounds_toArray, List.set_cons_zero, List.set_cons_succ]
  refine AnyS.std (n := 2) [(3, 9, .agg #[.int .i64 d0.1, .int .i64 d0.2]), (7, 13, .agg #[.int .i64 d1.1, .int .i64 d1.2]), (11, 17, .agg #[.int .i64 d2.1, .int .i64 d2.2])] [] (RowsK w [(w.heap.size, [.int .i64 x.1, .int .i64 x.2, .int .i64 y.1, .int .i64 y.2, .int .i64 z.1, .int .i64 z.2]), (w.heap.size + 1, [.int .i64 0, .int .i64 0, .int .i64 0, .int .i64 0, .int .i64 0, .int .i64 0]), (w1.heap.size, [.int .i64 n.1, .int .i64 n.2])] (fun _ => True)) (wd.heap.size) (fun u u' h hb => h.kept (fun _ _ h _ => h) hb) (by kernel_rfl) (by kernel_rfl) (by kernel_rfl) (by kernel_rfl) (fun u L h _ => h) k0 (Nat.le_refl _) ?_ ?_ ?_
  · intro c hc t u ku lu hp
    simp only [List.mem_cons, List.not_mem_nil, or_false] at hc
    rcases hc with rfl | rfl | rfl
    · clear hp
      simp only [LatC.op, LatC.dst, LatC.val, LatB.op, LatB.dst, LatB.zs, LatB.ty, List.map, List.cons_append, List.nil_append, putA, Act.put, List.setIfInBounds_toArray, List.set_cons_zero, List.set_cons_succ]
      refine wpOp_step rfl (fun K' hK' => ?_)
      have hK := Lib.hid hK'
      clear hK'
      go_simp
      with_reducible refine (D0.out _).mono ?_
      rintro _ u1 ⟨rfl, hb1⟩
      go_wp2_with fail
      exact hK.out _ _ ⟨rfl, hb1⟩
    · clear hp
      simp only [LatC.op, LatC.dst, LatC.val, LatB.op, LatB.dst, LatB.zs, LatB.ty, List.map, List.cons_append, List.nil_append, putA, Act.put, List.setIfInBounds_toArray, List.set_cons_zero, List.set_cons_succ]
      refine wpOp_step rfl (fun K' hK' => ?_)
      have hK := Lib.hid hK'
      clear hK'
      go_simp
      with_reducible refine (D1.out _).mono ?_
      rintro _ u1 ⟨rfl, hb1⟩
      go_wp2_with fail
      exact hK.out _ _ ⟨rfl, hb1⟩
    · clear hp
      simp only [LatC.op, LatC.dst, LatC.val, LatB.op, LatB.dst, LatB.zs, LatB.ty, List.map, List.cons_append, List.nil_append, putA, Act.put, List.setIfInBounds_toArray, List.set_cons_zero, List.set_cons_succ]
      refine wpOp_step rfl (fun K' hK' => ?_)
      have hK := Lib.hid hK'
      clear hK'
      go_simp
      with_reducible refine (D2.out _).mono ?_
      rintro _ u1 ⟨rfl, hb1⟩
      go_wp2_with fail
      exact hK.out _ _ ⟨rfl, hb1⟩
  · intro b hb; cases hb
  intro t u g ku lu hcs hbs hne
  have t9 : t 9 = .agg #[.int .i64 d0.1, .int .i64 d0.2] := hcs (3, 9, .agg #[.int .i64 d0.1, .int .i64 d0.2]) (by simp)
  have t13 : t 13 = .agg #[.int .i64 d1.1, .int .i64 d1.2] := hcs (7, 13, .agg #[.int .i64 d1.1, .int .i64 d1.2]) (by simp)
  have t17 : t 17 = .agg #[.int .i64 d2.1, .int .i64 d2.2] := hcs (11, 17, .agg #[.int .i64 d2.1, .int .i64 d2.2]) (by simp)
  clear hcs hbs hne
  simp only [LatC.op, LatC.dst, LatC.val, LatB.op, LatB.dst, LatB.zs, LatB.ty, List.map, List.cons_append, List.nil_append, setL, if_true, putA, Act.put, List.setIfInBounds_toArray, List.set_cons_zero, List.set_cons_succ, t9, t13, t17]
  clear t9 t13 t17
  refine AnyS.take (i := 12) (v := .agg #[.int .i64 d0.1, .int .i64 d0.2, .int .i64 d1.1, .int .i64 d1.2, .int .i64 d2.1, .int .i64 d2.2]) (T := fun _ => True) [] rfl (by kernel_rfl) (by kernel_rfl) (by kernel_rfl) (by kernel_rfl) (by kernel_rfl) (fun _ _ _ h => h) (fun L u q h => trivial) (fun L u h => OneS.less (by decide) h) (Or.inl ⟨by rfl, ?_⟩) (fun _ => ku) ?_
  · intro u hu
    clear hu
    go_simp
  try simp only [Act.put, List.getElem_toArray, List.getElem_cons_zero, List.getElem_cons_succ, List.setIfInBounds_toArray, List.set_cons_zero, List.set_cons_succ]
  have rz : RowAt u (w.heap.size + 1) 0 [.int .i64 0, .int .i64 0, .int .i64 0, .int .i64 0, .int .i64 0, .int .i64 0] := ku.row (by simp)
  have bk := ku.2.2
  have sc0 := (rz.at 0 rfl).1
  have sc1 := (rz.at 1 rfl).1
  have sc2 := (rz.at 2 rfl).1
  have sc3 := (rz.at 3 rfl).1
  have sc4 := (rz.at 4 rfl).1
  have sc5 := (rz.at 5 rfl).1
  have sf0 := (rz.at 0 rfl).2
  have sf1 := (rz.at 1 rfl).2
  have sf2 := (rz.at 2 rfl).2
  have sf3 := (rz.at 3 rfl).2
  have sf4 := (rz.at 4 rfl).2
  have sf5 := (rz.at 5 rfl).2
  refine AnyS.one (i := 13) (by kernel_rfl) (AnyS.comes rfl (fun K hK => ?_))
  go_simp
  refine hK.out _ _ (fun h => absurd h (by decide)) ?_
  clear hK K
  try simp only [Act.put, List.getElem_toArray, List.getElem_cons_zero, List.getElem_cons_succ, List.setIfInBounds_toArray, List.set_cons_zero, List.set_cons_succ]
  refine AnyS.done (by kernel_rfl) ?_ _
  have bsz := bk.size
  clear ku lu rz k0
  go_wp2
  exact bodyPost_ret (v := .agg #[.int .i64 d0.1, .int .i64 d0.2, .int .i64 d1.1, .int .i64 d1.2, .int .i64 d2.1, .int .i64 d2.2]) (by simp [results, Try.results69, go_sem, sc0, sf0, sc1, sf1, sc2, sf2, sc3, sf3, sc4, sf4, sc5, sf5]) rfl ⟨rfl, (by repeat (first | (with_reducible assumption) | (with_reducible refine Below.setCell ?_ (by dsimp only; omega) _)))⟩
end Go.Proofs.Ytmikjgbojknlnaa
