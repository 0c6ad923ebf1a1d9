/- The laws of overlaps and of equality of vectors. Conditions: numbers are int64. -/
import Derived.Test.YtmikjgbojknlnaaVeK
import Derived.Test.YtmikjgbojknlnaaVeO
import Derived.Test.YtmikjgbojknlnaaLat
import Derived.Deep.RegionHeld3
import Derived.Deep.DeepCutAuto
import Derived.Outline
namespace Go.Proofs.Ytmikjgbojknlnaa
open Go.ChangeShapes Go.WideShapes Go.ChangeAt Go.RowKit
set_option linter.unusedVariables false
set_option maxRecDepth 100000
set_option linter.unusedSimpArgs false
set_option maxHeartbeats 1000000
set_option maxHeartbeats 16000000 in
theorem law_OverlapV (x y z x' y' z' : Iv) (w : World) : Calls Try.prog 20 #[.agg #[.int .i64 x.1, .int .i64 x.2, .int .i64 y.1, .int .i64 y.2, .int .i64 z.1, .int .i64 z.2], .agg #[.int .i64 x'.1, .int .i64 x'.2, .int .i64 y'.1, .int .i64 y'.2, .int .i64 z'.1, .int .i64 z'.2]] w fun e w' =>
    e = .returned (.bool true) ∧ Below w.heap.size w w' := by
  obtain ⟨val, hval⟩ : ∃ q : Bool, q = (olpI x x' && olpI y y' && olpI z z') := ⟨_, rfl⟩
  have SP := Lib.hid (fun w => sOverlapV_any x y z x' y' z' w)
  have IM := Lib.hid (fun w => OverlapV_any x y z x' y' z' w)
  rw [← hval] at SP IM
  clear hval
  go_enter Try.func20, Try.ntmps20
  go_upto_region 1 with fail
  refine AnyS.enter (K := RowsK w [(w.heap.size, [.int .i64 x.1, .int .i64 x.2, .int .i64 y.1, .int .i64 y.2, .int .i64 z.1, .int .i64 z.2]), (w.heap.size + 1, [.int .i64 x'.1, .int .i64 x'.2, .int .i64 y'.1, .int .i64 y'.2, .int .i64 z'.1, .int .i64 z'.2])] (fun _ => True)) (s := 5) (by kernel_rfl) ⟨?_, trivial, belS⟩ ?_
  · intro r hr
    simp only [List.mem_cons, List.not_mem_nil, or_false] at hr
    rcases hr with rfl | rfl
    all_goals (dsimp only; repeat (first | (with_reducible assumption) | (with_reducible exact RowAt.drew (by assumption)) | exact row_nil | refine row_cons (by first | (with_reducible assumption) | (with_reducible exact own_drew (by assumption)) | exact ⟨by simp [go_sem], by simp [go_sem]⟩) ?_))
  intro wd k0
  have lw : w.heap.size ≤ wd.heap.size := k0.2.2.size
  have lt0 : w.heap.size < wd.heap.size := World.block_lt_of_cell? _ _ (((k0.row (b := w.heap.size) (vs := [.int .i64 x.1, .int .i64 x.2, .int .i64 y.1, .int .i64 y.2, .int .i64 z.1, .int .i64 z.2]) (by simp)).at 0 rfl).1)
  have lt1 : w.heap.size + 1 < wd.heap.size := World.block_lt_of_cell? _ _ (((k0.row (b := w.heap.size + 1) (vs := [.int .i64 x'.1, .int .i64 x'.2, .int .i64 y'.1, .int .i64 y'.2, .int .i64 z'.1, .int .i64 z'.2]) (by simp)).at 0 rfl).1)
  refine AnyS.take (i := 0) (v := .agg #[.int .i64 x.1, .int .i64 x.2, .int .i64 y.1, .int .i64 y.2, .int .i64 z.1, .int .i64 z.2]) (T := RowsK w [(w.heap.size, [.int .i64 x.1, .int .i64 x.2, .int .i64 y.1, .int .i64 y.2, .int .i64 z.1, .int .i64 z.2]), (w.heap.size + 1, [.int .i64 x'.1, .int .i64 x'.2, .int .i64 y'.1, .int .i64 y'.2, .int .i64 z'.1, .int .i64 z'.2])] (fun _ => True)) [5] rfl (by kernel_rfl) (by kernel_rfl) (by kernel_rfl) (by kernel_rfl) (by kernel_rfl) (fun _ _ _ h => h) (fun L u q h => h (q 5 (by simp))) (fun L u h => OneS.less (by decide) h) (Or.inl ⟨by rfl, ?_⟩) (fun _ => k0) ?_
  · intro u hu
    have hr0 : RowAt u w.heap.size 0 [.int .i64 x.1, .int .i64 x.2, .int .i64 y.1, .int .i64 y.2, .int .i64 z.1, .int .i64 z.2] := hu.row (by simp)
    have c0_0 := (hr0.at 0 rfl).1
    have c0_1 := (hr0.at 1 rfl).1
    have c0_2 := (hr0.at 2 rfl).1
    have c0_3 := (hr0.at 3 rfl).1
    have c0_4 := (hr0.at 4 rfl).1
    have c0_5 := (hr0.at 5 rfl).1
    have hr1 : RowAt u (w.heap.size + 1) 0 [.int .i64 x'.1, .int .i64 x'.2, .int .i64 y'.1, .int .i64 y'.2, .int .i64 z'.1, .int .i64 z'.2] := hu.row (by simp)
    have c1_0 := (hr1.at 0 rfl).1
    have c1_1 := (hr1.at 1 rfl).1
    have c1_2 := (hr1.at 2 rfl).1
    have c1_3 := (hr1.at 3 rfl).1
    have c1_4 := (hr1.at 4 rfl).1
    have c1_5 := (hr1.at 5 rfl).1
    clear hu
    go_simp
  try simp only [Act.put, List.getElem_toArray, List.getElem_cons_zero, List.getElem_cons_succ, List.setIfInBounds_toArray, List.set_cons_zero, List.set_cons_succ]
  refine AnyS.take (i := 2) (v := .agg #[.int .i64 x'.1, .int .i64 x'.2, .int .i64 y'.1, .int .i64 y'.2, .int .i64 z'.1, .int .i64 z'.2]) (T := RowsK w [(w.heap.size, [.int .i64 x.1, .int .i64 x.2, .int .i64 y.1, .int .i64 y.2, .int .i64 z.1, .int .i64 z.2]), (w.heap.size + 1, [.int .i64 x'.1, .int .i64 x'.2, .int .i64 y'.1, .int .i64 y'.2, .int .i64 z'.1, .int .i64 z'.2])] (fun _ => True)) [5] rfl (by kernel_rfl) (by kernel_rfl) (by kernel_rfl) (by kernel_rfl) (by kernel_rfl) (fun _ _ _ h => h) (fun L u q h => h (q 5 (by simp))) (fun L u h => OneS.less (by decide) h) (Or.inl ⟨by rfl, ?_⟩) (fun _ => k0) ?_
  · intro u hu
    have hr0 : RowAt u w.heap.size 0 [.int .i64 x.1, .int .i64 x.2, .int .i64 y.1, .int .i64 y.2, .int .i64 z.1, .int .i64 z.2] := hu.row (by simp)
    have c0_0 := (hr0.at 0 rfl).1
    have c0_1 := (hr0.at 1 rfl).1
    have c0_2 := (hr0.at 2 rfl).1
    have c0_3 := (hr0.at 3 rfl).1
    have c0_4 := (hr0.at 4 rfl).1
    have c0_5 := (hr0.at 5 rfl).1
    have hr1 : RowAt u (w.heap.size + 1) 0 [.int .i64 x'.1, .int .i64 x'.2, .int .i64 y'.1, .int .i64 y'.2, .int .i64 z'.1, .int .i64 z'.2] := hu.row (by simp)
    have c1_0 := (hr1.at 0 rfl).1
    have c1_1 := (hr1.at 1 rfl).1
    have c1_2 := (hr1.at 2 rfl).1
    have c1_3 := (hr1.at 3 rfl).1
    have c1_4 := (hr1.at 4 rfl).1
    have c1_5 := (hr1.at 5 rfl).1
    clear hu
    go_simp
  try simp only [Act.put, List.getElem_toArray, List.getElem_cons_zero, List.getElem_cons_succ, List.setIfInBounds_toArray, List.set_cons_zero, List.set_cons_succ]
  refine AnyS.std (n := 1) [(1, 8, .agg #[.int .i64 x.1, .int .i64 x.2, .int .i64 y.1, .int .i64 y.2, .int .i64 z.1, .int .i64 z.2]), (3, 10, .agg #[.int .i64 x'.1, .int .i64 x'.2, .int .i64 y'.1, .int .i64 y'.2, .int .i64 z'.1, .int .i64 z'.2]), (4, 11, .bool val)] [] (RowsK w [(w.heap.size, [.int .i64 x.1, .int .i64 x.2, .int .i64 y.1, .int .i64 y.2, .int .i64 z.1, .int .i64 z.2]), (w.heap.size + 1, [.int .i64 x'.1, .int .i64 x'.2, .int .i64 y'.1, .int .i64 y'.2, .int .i64 z'.1, .int .i64 z'.2])] (fun _ => True)) (wd.heap.size) (fun u u' h hb => h.kept (fun _ _ h _ => h) hb) (by kernel_rfl) (by kernel_rfl) (by kernel_rfl) (by kernel_rfl) (fun u L h _ => h) k0 (Nat.le_refl _) ?_ ?_ ?_
  · intro c hc t u ku lu hp
    simp only [List.mem_cons, List.not_mem_nil, or_false] at hc
    rcases hc with rfl | rfl | rfl
    · clear hp
      simp only [LatC.op, LatC.dst, LatC.val, LatB.op, LatB.dst, LatB.zs, LatB.ty, List.map, List.cons_append, List.nil_append, putA, Act.put, List.setIfInBounds_toArray, List.set_cons_zero, List.set_cons_succ]
      refine wpOp_step rfl (fun K' hK' => ?_)
      have hK := Lib.hid hK'
      clear hK'
      go_simp
      with_reducible refine (toVec_any x y z _).mono ?_
      rintro _ u1 ⟨rfl, hb1⟩
      go_wp2_with fail
      exact hK.out _ _ ⟨rfl, hb1⟩
    · clear hp
      simp only [LatC.op, LatC.dst, LatC.val, LatB.op, LatB.dst, LatB.zs, LatB.ty, List.map, List.cons_append, List.nil_append, putA, Act.put, List.setIfInBounds_toArray, List.set_cons_zero, List.set_cons_succ]
      refine wpOp_step rfl (fun K' hK' => ?_)
      have hK := Lib.hid hK'
      clear hK'
      go_simp
      with_reducible refine (toVec_any x' y' z' _).mono ?_
      rintro _ u1 ⟨rfl, hb1⟩
      go_wp2_with fail
      exact hK.out _ _ ⟨rfl, hb1⟩
    · have q8 : t 8 = .agg #[.int .i64 x.1, .int .i64 x.2, .int .i64 y.1, .int .i64 y.2, .int .i64 z.1, .int .i64 z.2] := hp (1, 8, .agg #[.int .i64 x.1, .int .i64 x.2, .int .i64 y.1, .int .i64 y.2, .int .i64 z.1, .int .i64 z.2]) (by simp) (by kernel_rfl)
      have q10 : t 10 = .agg #[.int .i64 x'.1, .int .i64 x'.2, .int .i64 y'.1, .int .i64 y'.2, .int .i64 z'.1, .int .i64 z'.2] := hp (3, 10, .agg #[.int .i64 x'.1, .int .i64 x'.2, .int .i64 y'.1, .int .i64 y'.2, .int .i64 z'.1, .int .i64 z'.2]) (by simp) (by kernel_rfl)
      clear hp
      simp only [LatC.op, LatC.dst, LatC.val, LatB.op, LatB.dst, LatB.zs, LatB.ty, List.map, List.cons_append, List.nil_append, putA, Act.put, List.setIfInBounds_toArray, List.set_cons_zero, List.set_cons_succ]
      simp only [q8]
      simp only [q10]
      refine wpOp_step rfl (fun K' hK' => ?_)
      have hK := Lib.hid hK'
      clear hK'
      go_simp
      with_reducible refine (SP.out _).mono ?_
      rintro _ u1 ⟨rfl, hb1⟩
      go_wp2_with fail
      exact hK.out _ _ ⟨rfl, hb1⟩
  · intro b hb; cases hb
  intro t u g ku lu hcs hbs hne
  have t8 : t 8 = .agg #[.int .i64 x.1, .int .i64 x.2, .int .i64 y.1, .int .i64 y.2, .int .i64 z.1, .int .i64 z.2] := hcs (1, 8, .agg #[.int .i64 x.1, .int .i64 x.2, .int .i64 y.1, .int .i64 y.2, .int .i64 z.1, .int .i64 z.2]) (by simp)
  have t10 : t 10 = .agg #[.int .i64 x'.1, .int .i64 x'.2, .int .i64 y'.1, .int .i64 y'.2, .int .i64 z'.1, .int .i64 z'.2] := hcs (3, 10, .agg #[.int .i64 x'.1, .int .i64 x'.2, .int .i64 y'.1, .int .i64 y'.2, .int .i64 z'.1, .int .i64 z'.2]) (by simp)
  have t11 : t 11 = .bool val := hcs (4, 11, .bool val) (by simp)
  clear hcs hbs hne
  simp only [LatC.op, LatC.dst, LatC.val, LatB.op, LatB.dst, LatB.zs, LatB.ty, List.map, List.cons_append, List.nil_append, setL, if_true, putA, Act.put, List.setIfInBounds_toArray, List.set_cons_zero, List.set_cons_succ, t8, t10, t11]
  clear t8 t10 t11
  refine AnyS.one (i := 5) (by kernel_rfl) (AnyS.comes rfl (fun K hK => ?_))
  go_simp
  refine hK.out _ _ (fun h => absurd h (by decide)) ?_
  clear hK K
  try simp only [Act.put, List.getElem_toArray, List.getElem_cons_zero, List.getElem_cons_succ, List.setIfInBounds_toArray, List.set_cons_zero, List.set_cons_succ]
  refine AnyS.done (by kernel_rfl) ?_ _
  have ra : RowAt u (w.heap.size) 0 [.int .i64 x.1, .int .i64 x.2, .int .i64 y.1, .int .i64 y.2, .int .i64 z.1, .int .i64 z.2] := ku.row (by simp)
  have rb : RowAt u (w.heap.size + 1) 0 [.int .i64 x'.1, .int .i64 x'.2, .int .i64 y'.1, .int .i64 y'.2, .int .i64 z'.1, .int .i64 z'.2] := ku.row (by simp)
  have bk := ku.2.2
  clear ku lu lt0 lt1 lw k0
  go_upto_region 2 with fail
  refine AnyS.enter (K := RowsK w [(w.heap.size, [.int .i64 x.1, .int .i64 x.2, .int .i64 y.1, .int .i64 y.2, .int .i64 z.1, .int .i64 z.2]), (w.heap.size + 1, [.int .i64 x'.1, .int .i64 x'.2, .int .i64 y'.1, .int .i64 y'.2, .int .i64 z'.1, .int .i64 z'.2])] (fun _ => True)) (s := 5) (by kernel_rfl) ⟨?_, trivial, belS⟩ ?_
  · intro r hr
    simp only [List.mem_cons, List.not_mem_nil, or_false] at hr
    rcases hr with rfl | rfl
    all_goals (dsimp only; repeat (first | (with_reducible assumption) | (with_reducible exact RowAt.drew (by assumption)) | exact row_nil | refine row_cons (by first | (with_reducible assumption) | (with_reducible exact own_drew (by assumption)) | exact ⟨by simp [go_sem], by simp [go_sem]⟩) ?_))
  intro wd k0
  have lw : w.heap.size ≤ wd.heap.size := k0.2.2.size
  have lt0 : w.heap.size < wd.heap.size := World.block_lt_of_cell? _ _ (((k0.row (b := w.heap.size) (vs := [.int .i64 x.1, .int .i64 x.2, .int .i64 y.1, .int .i64 y.2, .int .i64 z.1, .int .i64 z.2]) (by simp)).at 0 rfl).1)
  have lt1 : w.heap.size + 1 < wd.heap.size := World.block_lt_of_cell? _ _ (((k0.row (b := w.heap.size + 1) (vs := [.int .i64 x'.1, .int .i64 x'.2, .int .i64 y'.1, .int .i64 y'.2, .int .i64 z'.1, .int .i64 z'.2]) (by simp)).at 0 rfl).1)
  refine AnyS.take (i := 0) (v := .agg #[.int .i64 x.1, .int .i64 x.2, .int .i64 y.1, .int .i64 y.2, .int .i64 z.1, .int .i64 z.2]) (T := RowsK w [(w.heap.size, [.int .i64 x.1, .int .i64 x.2, .int .i64 y.1, .int .i64 y.2, .int .i64 z.1, .int .i64 z.2]), (w.heap.size + 1, [.int .i64 x'.1, .int .i64 x'.2, .int .i64 y'.1, .int .i64 y'.2, .int .i64 z'.1, .int .i64 z'.2])] (fun _ => True)) [5] rfl (by kernel_rfl) (by kernel_rfl) (by kernel_rfl) (by kernel_rfl) (by kernel_rfl) (fun _ _ _ h => h) (fun L u q h => h (q 5 (by simp))) (fun L u h => OneS.less (by decide) h) (Or.inl ⟨by rfl, ?_⟩) (fun _ => k0) ?_
  · intro u hu
    have hr0 : RowAt u w.heap.size 0 [.int .i64 x.1, .int .i64 x.2, .int .i64 y.1, .int .i64 y.2, .int .i64 z.1, .int .i64 z.2] := hu.row (by simp)
    have c0_0 := (hr0.at 0 rfl).1
    have c0_1 := (hr0.at 1 rfl).1
    have c0_2 := (hr0.at 2 rfl).1
    have c0_3 := (hr0.at 3 rfl).1
    have c0_4 := (hr0.at 4 rfl).1
    have c0_5 := (hr0.at 5 rfl).1
    have hr1 : RowAt u (w.heap.size + 1) 0 [.int .i64 x'.1, .int .i64 x'.2, .int .i64 y'.1, .int .i64 y'.2, .int .i64 z'.1, .int .i64 z'.2] := hu.row (by simp)
    have c1_0 := (hr1.at 0 rfl).1
    have c1_1 := (hr1.at 1 rfl).1
    have c1_2 := (hr1.at 2 rfl).1
    have c1_3 := (hr1.at 3 rfl).1
    have c1_4 := (hr1.at 4 rfl).1
    have c1_5 := (hr1.at 5 rfl).1
    clear hu
    go_simp
  try simp only [Act.put, List.getElem_toArray, List.getElem_cons_zero, List.getElem_cons_succ, List.setIfInBounds_toArray, List.set_cons_zero, List.set_cons_succ]
  refine AnyS.take (i := 2) (v := .agg #[.int .i64 x'.1, .int .i64 x'.2, .int .i64 y'.1, .int .i64 y'.2, .int .i64 z'.1, .int .i64 z'.2]) (T := RowsK w [(w.heap.size, [.int .i64 x.1, .int .i64 x.2, .int .i64 y.1, .int .i64 y.2, .int .i64 z.1, .int .i64 z.2]), (w.heap.size + 1, [.int .i64 x'.1, .int .i64 x'.2, .int .i64 y'.1, .int .i64 y'.2, .int .i64 z'.1, .int .i64 z'.2])] (fun _ => True)) [5] rfl (by kernel_rfl) (by kernel_rfl) (by kernel_rfl) (by kernel_rfl) (by kernel_rfl) (fun _ _ _ h => h) (fun L u q h => h (q 5 (by simp))) (fun L u h => OneS.less (by decide) h) (Or.inl ⟨by rfl, ?_⟩) (fun _ => k0) ?_
  · intro u hu
    have hr0 : RowAt u w.heap.size 0 [.int .i64 x.1, .int .i64 x.2, .int .i64 y.1, .int .i64 y.2, .int .i64 z.1, .int .i64 z.2] := hu.row (by simp)
    have c0_0 := (hr0.at 0 rfl).1
    have c0_1 := (hr0.at 1 rfl).1
    have c0_2 := (hr0.at 2 rfl).1
    have c0_3 := (hr0.at 3 rfl).1
    have c0_4 := (hr0.at 4 rfl).1
    have c0_5 := (hr0.at 5 rfl).1
    have hr1 : RowAt u (w.heap.size + 1) 0 [.int .i64 x'.1, .int .i64 x'.2, .int .i64 y'.1, .int .i64 y'.2, .int .i64 z'.1, .int .i64 z'.2] := hu.row (by simp)
    have c1_0 := (hr1.at 0 rfl).1
    have c1_1 := (hr1.at 1 rfl).1
    have c1_2 := (hr1.at 2 rfl).1
    have c1_3 := (hr1.at 3 rfl).1
    have c1_4 := (hr1.at 4 rfl).1
    have c1_5 := (hr1.at 5 rfl).1
    clear hu
    go_simp
  try simp only [Act.put, List.getElem_toArray, List.getElem_cons_zero, List.getElem_cons_succ, List.setIfInBounds_toArray, List.set_cons_zero, List.set_cons_succ]
  refine AnyS.std (n := 1) [(1, 13, .agg #[.int .i64 x.1, .int .i64 x.2, .int .i64 y.1, .int .i64 y.2, .int .i64 z.1, .int .i64 z.2]), (3, 15, .agg #[.int .i64 x'.1, .int .i64 x'.2, .int .i64 y'.1, .int .i64 y'.2, .int .i64 z'.1, .int .i64 z'.2]), (4, 16, .bool val)] [] (RowsK w [(w.heap.size, [.int .i64 x.1, .int .i64 x.2, .int .i64 y.1, .int .i64 y.2, .int .i64 z.1, .int .i64 z.2]), (w.heap.size + 1, [.int .i64 x'.1, .int .i64 x'.2, .int .i64 y'.1, .int .i64 y'.2, .int .i64 z'.1, .int .i64 z'.2])] (fun _ => True)) (wd.heap.size) (fun u u' h hb => h.kept (fun _ _ h _ => h) hb) (by kernel_rfl) (by kernel_rfl) (by kernel_rfl) (by kernel_rfl) (fun u L h _ => h) k0 (Nat.le_refl _) ?_ ?_ ?_
  · intro c hc t u ku lu hp
    simp only [List.mem_cons, List.not_mem_nil, or_false] at hc
    rcases hc with rfl | rfl | rfl
    · clear hp
      simp only [LatC.op, LatC.dst, LatC.val, LatB.op, LatB.dst, LatB.zs, LatB.ty, List.map, List.cons_append, List.nil_append, putA, Act.put, List.setIfInBounds_toArray, List.set_cons_zero, List.set_cons_succ]
      refine wpOp_step rfl (fun K' hK' => ?_)
      have hK := Lib.hid hK'
      clear hK'
      go_simp
      with_reducible refine (toVec_any x y z _).mono ?_
      rintro _ u1 ⟨rfl, hb1⟩
      go_wp2_with fail
      exact hK.out _ _ ⟨rfl, hb1⟩
    · clear hp
      simp only [LatC.op, LatC.dst, LatC.val, LatB.op, LatB.dst, LatB.zs, LatB.ty, List.map, List.cons_append, List.nil_append, putA, Act.put, List.setIfInBounds_toArray, List.set_cons_zero, List.set_cons_succ]
      refine wpOp_step rfl (fun K' hK' => ?_)
      have hK := Lib.hid hK'
      clear hK'
      go_simp
      with_reducible refine (toVec_any x' y' z' _).mono ?_
      rintro _ u1 ⟨rfl, hb1⟩
      go_wp2_with fail
      exact hK.out _ _ ⟨rfl, hb1⟩
    · have q13 : t 13 = .agg #[.int .i64 x.1, .int .i64 x.2, .int .i64 y.1, .int .i64 y.2, .int .i64 z.1, .int .i64 z.2] := hp (1, 13, .agg #[.int .i64 x.1, .int .i64 x.2, .int .i64 y.1, .int .i64 y.2, .int .i64 z.1, .int .i64 z.2]) (by simp) (by kernel_rfl)
      have q15 : t 15 = .agg #[.int .i64 x'.1, .int .i64 x'.2, .int .i64 y'.1, .int .i64 y'.2, .int .i64 z'.1, .int .i64 z'.2] := hp (3, 15, .agg #[.int .i64 x'.1, .int .i64 x'.2, .int .i64 y'.1, .int .i64 y'.2, .int .i64 z'.1, .int .i64 z'.2]) (by simp) (by kernel_rfl)
      clear hp
      simp only [LatC.op, LatC.dst, LatC.val, LatB.op, LatB.dst, LatB.zs, LatB.ty, List.map, List.cons_append, List.nil_append, putA, Act.put, List.setIfInBounds_toArray, List.set_cons_zero, List.set_cons_succ]
      simp only [q13]
      simp only [q15]
      refine wpOp_step rfl (fun K' hK' => ?_)
      have hK := Lib.hid hK'
      clear hK'
      go_simp
      with_reducible refine (IM.out _).mono ?_
      rintro _ u1 ⟨rfl, hb1⟩
      go_wp2_with fail
      exact hK.out _ _ ⟨rfl, hb1⟩
  · intro b hb; cases hb
  intro t u g ku lu hcs hbs hne
  have t13 : t 13 = .agg #[.int .i64 x.1, .int .i64 x.2, .int .i64 y.1, .int .i64 y.2, .int .i64 z.1, .int .i64 z.2] := hcs (1, 13, .agg #[.int .i64 x.1, .int .i64 x.2, .int .i64 y.1, .int .i64 y.2, .int .i64 z.1, .int .i64 z.2]) (by simp)
  have t15 : t 15 = .agg #[.int .i64 x'.1, .int .i64 x'.2, .int .i64 y'.1, .int .i64 y'.2, .int .i64 z'.1, .int .i64 z'.2] := hcs (3, 15, .agg #[.int .i64 x'.1, .int .i64 x'.2, .int .i64 y'.1, .int .i64 y'.2, .int .i64 z'.1, .int .i64 z'.2]) (by simp)
  have t16 : t 16 = .bool val := hcs (4, 16, .bool val) (by simp)
  clear hcs hbs hne
  simp only [LatC.op, LatC.dst, LatC.val, LatB.op, LatB.dst, LatB.zs, LatB.ty, List.map, List.cons_append, List.nil_append, setL, if_true, putA, Act.put, List.setIfInBounds_toArray, List.set_cons_zero, List.set_cons_succ, t13, t15, t16]
  clear t13 t15 t16
  refine AnyS.one (i := 5) (by kernel_rfl) (AnyS.comes rfl (fun K hK => ?_))
  go_simp
  refine hK.out _ _ (fun h => absurd h (by decide)) ?_
  clear hK K
  try simp only [Act.put, List.getElem_toArray, List.getElem_cons_zero, List.getElem_cons_succ, List.setIfInBounds_toArray, List.set_cons_zero, List.set_cons_succ]
  refine AnyS.done (by kernel_rfl) ?_ _
  have bk' := ku.2.2
  cases val
  · go_wp2
    go_ret
    exact ⟨rfl, bk'⟩
  · go_wp2
    go_ret
    exact ⟨rfl, bk'⟩
set_option maxHeartbeats 16000000 in
theorem law_SameVec (x y z x' y' z' : Iv) (w : World) : Calls Try.prog 12 #[.agg #[.int .i64 x.1, .int .i64 x.2, .int .i64 y.1, .int .i64 y.2, .int .i64 z.1, .int .i64 z.2], .agg #[.int .i64 x'.1, .int .i64 x'.2, .int .i64 y'.1, .int .i64 y'.2, .int .i64 z'.1, .int .i64 z'.2]] w fun e w' =>
    e = .returned (.bool true) ∧ Below w.heap.size w w' := by
  obtain ⟨val, hval⟩ : ∃ q : Bool, q = decide (x = x' ∧ y = y' ∧ z = z') := ⟨_, rfl⟩
  have SP := Lib.hid (fun w => sSameVec_any x y z x' y' z' w)
  have IM := Lib.hid (fun w => SameVec_any x y z x' y' z' w)
  rw [← hval] at SP IM
  clear hval
  go_enter Try.func12, Try.ntmps12
  go_upto_region 1 with fail
  refine AnyS.enter (K := RowsK w [(w.heap.size, [.int .i64 x.1, .int .i64 x.2, .int .i64 y.1, .int .i64 y.2, .int .i64 z.1, .int .i64 z.2]), (w.heap.size + 1, [.int .i64 x'.1, .int .i64 x'.2, .int .i64 y'.1, .int .i64 y'.2, .int .i64 z'.1, .int .i64 z'.2])] (fun _ => True)) (s := 5) (by kernel_rfl) ⟨?_, trivial, belS⟩ ?_
  · intro r hr
    simp only [List.mem_cons, List.not_mem_nil, or_false] at hr
    rcases hr with rfl | rfl
    all_goals (dsimp only; repeat (first | (with_reducible assumption) | (with_reducible exact RowAt.drew (by assumption)) | exact row_nil | refine row_cons (by first | (with_reducible assumption) | (with_reducible exact own_drew (by assumption)) | exact ⟨by simp [go_sem], by simp [go_sem]⟩) ?_))
  intro wd k0
  have lw : w.heap.size ≤ wd.heap.size := k0.2.2.size
  have lt0 : w.heap.size < wd.heap.size := World.block_lt_of_cell? _ _ (((k0.row (b := w.heap.size) (vs := [.int .i64 x.1, .int .i64 x.2, .int .i64 y.1, .int .i64 y.2, .int .i64 z.1, .int .i64 z.2]) (by simp)).at 0 rfl).1)
  have lt1 : w.heap.size + 1 < wd.heap.size := World.block_lt_of_cell? _ _ (((k0.row (b := w.heap.size + 1) (vs := [.int .i64 x'.1, .int .i64 x'.2, .int .i64 y'.1, .int .i64 y'.2, .int .i64 z'.1, .int .i64 z'.2]) (by simp)).at 0 rfl).1)
  refine AnyS.take (i := 0) (v := .agg #[.int .i64 x.1, .int .i64 x.2, .int .i64 y.1, .int .i64 y.2, .int .i64 z.1, .int .i64 z.2]) (T := RowsK w [(w.heap.size, [.int .i64 x.1, .int .i64 x.2, .int .i64 y.1, .int .i64 y.2, .int .i64 z.1, .int .i64 z.2]), (w.heap.size + 1, [.int .i64 x'.1, .int .i64 x'.2, .int .i64 y'.1, .int .i64 y'.2, .int .i64 z'.1, .int .i64 z'.2])] (fun _ => True)) [5] rfl (by kernel_rfl) (by kernel_rfl) (by kernel_rfl) (by kernel_rfl) (by kernel_rfl) (fun _ _ _ h => h) (fun L u q h => h (q 5 (by simp))) (fun L u h => OneS.less (by decide) h) (Or.inl ⟨by rfl, ?_⟩) (fun _ => k0) ?_
  · intro u hu
    have hr0 : RowAt u w.heap.size 0 [.int .i64 x.1, .int .i64 x.2, .int .i64 y.1, .int .i64 y.2, .int .i64 z.1, .int .i64 z.2] := hu.row (by simp)
    have c0_0 := (hr0.at 0 rfl).1
    have c0_1 := (hr0.at 1 rfl).1
    have c0_2 := (hr0.at 2 rfl).1
    have c0_3 := (hr0.at 3 rfl).1
    have c0_4 := (hr0.at 4 rfl).1
    have c0_5 := (hr0.at 5 rfl).1
    have hr1 : RowAt u (w.heap.size + 1) 0 [.int .i64 x'.1, .int .i64 x'.2, .int .i64 y'.1, .int .i64 y'.2, .int .i64 z'.1, .int .i64 z'.2] := hu.row (by simp)
    have c1_0 := (hr1.at 0 rfl).1
    have c1_1 := (hr1.at 1 rfl).1
    have c1_2 := (hr1.at 2 rfl).1
    have c1_3 := (hr1.at 3 rfl).1
    have c1_4 := (hr1.at 4 rfl).1
    have c1_5 := (hr1.at 5 rfl).1
    clear hu
    go_simp
  try simp only [Act.put, List.getElem_toArray, List.getElem_cons_zero, List.getElem_cons_succ, List.setIfInBounds_toArray, List.set_cons_zero, List.set_cons_succ]
  refine AnyS.take (i := 2) (v := .agg #[.int .i64 x'.1, .int .i64 x'.2, .int .i64 y'.1, .int .i64 y'.2, .int .i64 z'.1, .int .i64 z'.2]) (T := RowsK w [(w.heap.size, [.int .i64 x.1, .int .i64 x.2, .int .i64 y.1, .int .i64 y.2, .int .i64 z.1, .int .i64 z.2]), (w.heap.size + 1, [.int .i64 x'.1, .int .i64 x'.2, .int .i64 y'.1, .int .i64 y'.2, .int .i64 z'.1, .int .i64 z'.2])] (fun _ => True)) [5] rfl (by kernel_rfl) (by kernel_rfl) (by kernel_rfl) (by kernel_rfl) (by kernel_rfl) (fun _ _ _ h => h) (fun L u q h => h (q 5 (by simp))) (fun L u h => OneS.less (by decide) h) (Or.inl ⟨by rfl, ?_⟩) (fun _ => k0) ?_
  · intro u hu
    have hr0 : RowAt u w.heap.size 0 [.int .i64 x.1, .int .i64 x.2, .int .i64 y.1, .int .i64 y.2, .int .i64 z.1, .int .i64 z.2] := hu.row (by simp)
    have c0_0 := (hr0.at 0 rfl).1
    have c0_1 := (hr0.at 1 rfl).1
    have c0_2 := (hr0.at 2 rfl).1
    have c0_3 := (hr0.at 3 rfl).1
    have c0_4 := (hr0.at 4 rfl).1
    have c0_5 := (hr0.at 5 rfl).1
    have hr1 : RowAt u (w.heap.size + 1) 0 [.int .i64 x'.1, .int .i64 x'.2, .int .i64 y'.1, .int .i64 y'.2, .int .i64 z'.1, .int .i64 z'.2] := hu.row (by simp)
    have c1_0 := (hr1.at 0 rfl).1
    have c1_1 := (hr1.at 1 rfl).1
    have c1_2 := (hr1.at 2 rfl).1
    have c1_3 := (hr1.at 3 rfl).1
    have c1_4 := (hr1.at 4 rfl).1
    have c1_5 := (hr1.at 5 rfl).1
    clear hu
    go_simp
  try simp only [Act.put, List.getElem_toArray, List.getElem_cons_zero, List.getElem_cons_succ, List.setIfInBounds_toArray, List.set_cons_zero, List.set_cons_succ]
  refine AnyS.std (n := 1) [(1, 8, .agg #[.int .i64 x.1, .int .i64 x.2, .int .i64 y.1, .int .i64 y.2, .int .i64 z.1, .int .i64 z.2]), (3, 10, .agg #[.int .i64 x'.1, .int .i64 x'.2, .int .i64 y'.1, .int .i64 y'.2, .int .i64 z'.1, .int .i64 z'.2]), (4, 11, .bool val)] [] (RowsK w [(w.heap.size, [.int .i64 x.1, .int .i64 x.2, .int .i64 y.1, .int .i64 y.2, .int .i64 z.1, .int .i64 z.2]), (w.heap.size + 1, [.int .i64 x'.1, .int .i64 x'.2, .int .i64 y'.1, .int .i64 y'.2, .int .i64 z'.1, .int .i64 z'.2])] (fun _ => True)) (wd.heap.size) (fun u u' h hb => h.kept (fun _ _ h _ => h) hb) (by kernel_rfl) (by kernel_rfl) (by kernel_rfl) (by kernel_rfl) (fun u L h _ => h) k0 (Nat.le_refl _) ?_ ?_ ?_
  · intro c hc t u ku lu hp
    simp only [List.mem_cons, List.not_mem_nil, or_false] at hc
    rcases hc with rfl | rfl | rfl
    · clear hp
      simp only [LatC.op, LatC.dst, LatC.val, LatB.op, LatB.dst, LatB.zs, LatB.ty, List.map, List.cons_append, List.nil_append, putA, Act.put, List.setIfInBounds_toArray, List.set_cons_zero, List.set_cons_succ]
      refine wpOp_step rfl (fun K' hK' => ?_)
      have hK := Lib.hid hK'
      clear hK'
      go_simp
      with_reducible refine (toVec_any x y z _).mono ?_
      rintro _ u1 ⟨rfl, hb1⟩
      go_wp2_with fail
      exact hK.out _ _ ⟨rfl, hb1⟩
    · clear hp
      simp only [LatC.op, LatC.dst, LatC.val, LatB.op, LatB.dst, LatB.zs, LatB.ty, List.map, List.cons_append, List.nil_append, putA, Act.put, List.setIfInBounds_toArray, List.set_cons_zero, List.set_cons_succ]
      refine wpOp_step rfl (fun K' hK' => ?_)
      have hK := Lib.hid hK'
      clear hK'
      go_simp
      with_reducible refine (toVec_any x' y' z' _).mono ?_
      rintro _ u1 ⟨rfl, hb1⟩
      go_wp2_with fail
      exact hK.out _ _ ⟨rfl, hb1⟩
    · have q8 : t 8 = .agg #[.int .i64 x.1, .int .i64 x.2, .int .i64 y.1, .int .i64 y.2, .int .i64 z.1, .int .i64 z.2] := hp (1, 8, .agg #[.int .i64 x.1, .int .i64 x.2, .int .i64 y.1, .int .i64 y.2, .int .i64 z.1, .int .i64 z.2]) (by simp) (by kernel_rfl)
      have q10 : t 10 = .agg #[.int .i64 x'.1, .int .i64 x'.2, .int .i64 y'.1, .int .i64 y'.2, .int .i64 z'.1, .int .i64 z'.2] := hp (3, 10, .agg #[.int .i64 x'.1, .int .i64 x'.2, .int .i64 y'.1, .int .i64 y'.2, .int .i64 z'.1, .int .i64 z'.2]) (by simp) (by kernel_rfl)
      clear hp
      simp only [LatC.op, LatC.dst, LatC.val, LatB.op, LatB.dst, LatB.zs, LatB.ty, List.map, List.cons_append, List.nil_append, putA, Act.put, List.setIfInBounds_toArray, List.set_cons_zero, List.set_cons_succ]
      simp only [q8]
      simp only [q10]
      refine wpOp_step rfl (fun K' hK' => ?_)
      have hK := Lib.hid hK'
      clear hK'
      go_simp
      with_reducible refine (SP.out _).mono ?_
      rintro _ u1 ⟨rfl, hb1⟩
      go_wp2_with fail
      exact hK.out _ _ ⟨rfl, hb1⟩
  · intro b hb; cases hb
  intro t u g ku lu hcs hbs hne
  have t8 : t 8 = .agg #[.int .i64 x.1, .int .i64 x.2, .int .i64 y.1, .int .i64 y.2, .int .i64 z.1, .int .i64 z.2] := hcs (1, 8, .agg #[.int .i64 x.1, .int .i64 x.2, .int .i64 y.1, .int .i64 y.2, .int .i64 z.1, .int .i64 z.2]) (by simp)
  have t10 : t 10 = .agg #[.int .i64 x'.1, .int .i64 x'.2, .int .i64 y'.1, .int .i64 y'.2, .int .i64 z'.1, .int .i64 z'.2] := hcs (3, 10, .agg #[.int .i64 x'.1, .int .i64 x'.2, .int .i64 y'.1, .int .i64 y'.2, .int .i64 z'.1, .int .i64 z'.2]) (by simp)
  have t11 : t 11 = .bool val := hcs (4, 11, .bool val) (by simp)
  clear hcs hbs hne
  simp only [LatC.op, LatC.dst, LatC.val, LatB.op, LatB.dst, LatB.zs, LatB.ty, List.map, List.cons_append, List.nil_append, setL, if_true, putA, Act.put, List.setIfInBounds_toArray, List.set_cons_zero, List.set_cons_succ, t8, t10, t11]
  clear t8 t10 t11
  refine AnyS.one (i := 5) (by kernel_rfl) (AnyS.comes rfl (fun K hK => ?_))
  go_simp
  refine hK.out _ _ (fun h => absurd h (by decide)) ?_
  clear hK K
  try simp only [Act.put, List.getElem_toArray, List.getElem_cons_zero, List.getElem_cons_succ, List.setIfInBounds_toArray, List.set_cons_zero, List.set_cons_succ]
  refine AnyS.done (by kernel_rfl) ?_ _
  have ra : RowAt u (w.heap.size) 0 [.int .i64 x.1, .int .i64 x.2, .int .i64 y.1, .int .i64 y.2, .int .i64 z.1, .int .i64 z.2] := ku.row (by simp)
  have rb : RowAt u (w.heap.size + 1) 0 [.int .i64 x'.1, .int .i64 x'.2, .int .i64 y'.1, .int .i64 y'.2, .int .i64 z'.1, .int .i64 z'.2] := ku.row (by simp)
  have bk := ku.2.2
  clear ku lu lt0 lt1 lw k0
  go_upto_region 2 with fail
  refine AnyS.enter (K := RowsK w [(w.heap.size, [.int .i64 x.1, .int .i64 x.2, .int .i64 y.1, .int .i64 y.2, .int .i64 z.1, .int .i64 z.2]), (w.heap.size + 1, [.int .i64 x'.1, .int .i64 x'.2, .int .i64 y'.1, .int .i64 y'.2, .int .i64 z'.1, .int .i64 z'.2])] (fun _ => True)) (s := 5) (by kernel_rfl) ⟨?_, trivial, belS⟩ ?_
  · intro r hr
    simp only [List.mem_cons, List.not_mem_nil, or_false] at hr
    rcases hr with rfl | rfl
    all_goals (dsimp only; repeat (first | (with_reducible assumption) | (with_reducible exact RowAt.drew (by assumption)) | exact row_nil | refine row_cons (by first | (with_reducible assumption) | (with_reducible exact own_drew (by assumption)) | exact ⟨by simp [go_sem], by simp [go_sem]⟩) ?_))
  intro wd k0
  have lw : w.heap.size ≤ wd.heap.size := k0.2.2.size
  have lt0 : w.heap.size < wd.heap.size := World.block_lt_of_cell? _ _ (((k0.row (b := w.heap.size) (vs := [.int .i64 x.1, .int .i64 x.2, .int .i64 y.1, .int .i64 y.2, .int .i64 z.1, .int .i64 z.2]) (by simp)).at 0 rfl).1)
  have lt1 : w.heap.size + 1 < wd.heap.size := World.block_lt_of_cell? _ _ (((k0.row (b := w.heap.size + 1) (vs := [.int .i64 x'.1, .int .i64 x'.2, .int .i64 y'.1, .int .i64 y'.2, .int .i64 z'.1, .int .i64 z'.2]) (by simp)).at 0 rfl).1)
  refine AnyS.take (i := 0) (v := .agg #[.int .i64 x.1, .int .i64 x.2, .int .i64 y.1, .int .i64 y.2, .int .i64 z.1, .int .i64 z.2]) (T := RowsK w [(w.heap.size, [.int .i64 x.1, .int .i64 x.2, .int .i64 y.1, .int .i64 y.2, .int .i64 z.1, .int .i64 z.2]), (w.heap.size + 1, [.int .i64 x'.1, .int .i64 x'.2, .int .i64 y'.1, .int .i64 y'.2, .int .i64 z'.1, .int .i64 z'.2])] (fun _ => True)) [5] rfl (by kernel_rfl) (by kernel_rfl) (by kernel_rfl) (by kernel_rfl) (by kernel_rfl) (fun _ _ _ h => h) (fun L u q h => h (q 5 (by simp))) (fun L u h => OneS.less (by decide) h) (Or.inl ⟨by rfl, ?_⟩) (fun _ => k0) ?_
  · intro u hu
    have hr0 : RowAt u w.heap.size 0 [.int .i64 x.1, .int .i64 x.2, .int .i64 y.1, .int .i64 y.2, .int .i64 z.1, .int .i64 z.2] := hu.row (by simp)
    have c0_0 := (hr0.at 0 rfl).1
    have c0_1 := (hr0.at 1 rfl).1
    have c0_2 := (hr0.at 2 rfl).1
    have c0_3 := (hr0.at 3 rfl).1
    have c0_4 := (hr0.at 4 rfl).1
    have c0_5 := (hr0.at 5 rfl).1
    have hr1 : RowAt u (w.heap.size + 1) 0 [.int .i64 x'.1, .int .i64 x'.2, .int .i64 y'.1, .int .i64 y'.2, .int .i64 z'.1, .int .i64 z'.2] := hu.row (by simp)
    have c1_0 := (hr1.at 0 rfl).1
    have c1_1 := (hr1.at 1 rfl).1
    have c1_2 := (hr1.at 2 rfl).1
    have c1_3 := (hr1.at 3 rfl).1
    have c1_4 := (hr1.at 4 rfl).1
    have c1_5 := (hr1.at 5 rfl).1
    clear hu
    go_simp
  try simp only [Act.put, List.getElem_toArray, List.getElem_cons_zero, List.getElem_cons_succ, List.setIfInBounds_toArray, List.set_cons_zero, List.set_cons_succ]
  refine AnyS.take (i := 2) (v := .agg #[.int .i64 x'.1, .int .i64 x'.2, .int .i64 y'.1, .int .i64 y'.2, .int .i64 z'.1, .int .i64 z'.2]) (T := RowsK w [(w.heap.size, [.int .i64 x.1, .int .i64 x.2, .int .i64 y.1, .int .i64 y.2, .int .i64 z.1, .int .i64 z.2]), (w.heap.size + 1, [.int .i64 x'.1, .int .i64 x'.2, .int .i64 y'.1, .int .i64 y'.2, .int .i64 z'.1, .int .i64 z'.2])] (fun _ => True)) [5] rfl (by kernel_rfl) (by kernel_rfl) (by kernel_rfl) (by kernel_rfl) (by kernel_rfl) (fun _ _ _ h => h) (fun L u q h => h (q 5 (by simp))) (fun L u h => OneS.less (by decide) h) (Or.inl ⟨by rfl, ?_⟩) (fun _ => k0) ?_
  · intro u hu
    have hr0 : RowAt u w.heap.size 0 [.int .i64 x.1, .int .i64 x.2, .int .i64 y.1, .int .i64 y.2, .int .i64 z.1, .int .i64 z.2] := hu.row (by simp)
    have c0_0 := (hr0.at 0 rfl).1
    have c0_1 := (hr0.at 1 rfl).1
    have c0_2 := (hr0.at 2 rfl).1
    have c0_3 := (hr0.at 3 rfl).1
    have c0_4 := (hr0.at 4 rfl).1
    have c0_5 := (hr0.at 5 rfl).1
    have hr1 : RowAt u (w.heap.size + 1) 0 [.int .i64 x'.1, .int .i64 x'.2, .int .i64 y'.1, .int .i64 y'.2, .int .i64 z'.1, .int .i64 z'.2] := hu.row (by simp)
    have c1_0 := (hr1.at 0 rfl).1
    have c1_1 := (hr1.at 1 rfl).1
    have c1_2 := (hr1.at 2 rfl).1
    have c1_3 := (hr1.at 3 rfl).1
    have c1_4 := (hr1.at 4 rfl).1
    have c1_5 := (hr1.at 5 rfl).1
    clear hu
    go_simp
  try simp only [Act.put, List.getElem_toArray, List.getElem_cons_zero, List.getElem_cons_succ, List.setIfInBounds_toArray, List.set_cons_zero, List.set_cons_succ]
  refine AnyS.std (n := 1) [(1, 13, .agg #[.int .i64 x.1, .int .i64 x.2, .int .i64 y.1, .int .i64 y.2, .int .i64 z.1, .int .i64 z.2]), (3, 15, .agg #[.int .i64 x'.1, .int .i64 x'.2, .int .i64 y'.1, .int .i64 y'.2, .int .i64 z'.1, .int .i64 z'.2]), (4, 16, .bool val)] [] (RowsK w [(w.heap.size, [.int .i64 x.1, .int .i64 x.2, .int .i64 y.1, .int .i64 y.2, .int .i64 z.1, .int .i64 z.2]), (w.heap.size + 1, [.int .i64 x'.1, .int .i64 x'.2, .int .i64 y'.1, .int .i64 y'.2, .int .i64 z'.1, .int .i64 z'.2])] (fun _ => True)) (wd.heap.size) (fun u u' h hb => h.kept (fun _ _ h _ => h) hb) (by kernel_rfl) (by kernel_rfl) (by kernel_rfl) (by kernel_rfl) (fun u L h _ => h) k0 (Nat.le_refl _) ?_ ?_ ?_
  · intro c hc t u ku lu hp
    simp only [List.mem_cons, List.not_mem_nil, or_false] at hc
    rcases hc with rfl | rfl | rfl
    · clear hp
      simp only [LatC.op, LatC.dst, LatC.val, LatB.op, LatB.dst, LatB.zs, LatB.ty, List.map, List.cons_append, List.nil_append, putA, Act.put, List.setIfInBounds_toArray, List.set_cons_zero, List.set_cons_succ]
      refine wpOp_step rfl (fun K' hK' => ?_)
      have hK := Lib.hid hK'
      clear hK'
      go_simp
      with_reducible refine (toVec_any x y z _).mono ?_
      rintro _ u1 ⟨rfl, hb1⟩
      go_wp2_with fail
      exact hK.out _ _ ⟨rfl, hb1⟩
    · clear hp
      simp only [LatC.op, LatC.dst, LatC.val, LatB.op, LatB.dst, LatB.zs, LatB.ty, List.map, List.cons_append, List.nil_append, putA, Act.put, List.setIfInBounds_toArray, List.set_cons_zero, List.set_cons_succ]
      refine wpOp_step rfl (fun K' hK' => ?_)
      have hK := Lib.hid hK'
      clear hK'
      go_simp
      with_reducible refine (toVec_any x' y' z' _).mono ?_
      rintro _ u1 ⟨rfl, hb1⟩
      go_wp2_with fail
      exact hK.out _ _ ⟨rfl, hb1⟩
    · have q13 : t 13 = .agg #[.int .i64 x.1, .int .i64 x.2, .int .i64 y.1, .int .i64 y.2, .int .i64 z.1, .int .i64 z.2] := hp (1, 13, .agg #[.int .i64 x.1, .int .i64 x.2, .int .i64 y.1, .int .i64 y.2, .int .i64 z.1, .int .i64 z.2]) (by simp) (by kernel_rfl)
      have q15 : t 15 = .agg #[.int .i64 x'.1, .int .i64 x'.2, .int .i64 y'.1, .int .i64 y'.2, .int .i64 z'.1, .int .i64 z'.2] := hp (3, 15, .agg #[.int .i64 x'.1, .int .i64 x'.2, .int .i64 y'.1, .int .i64 y'.2, .int .i64 z'.1, .int .i64 z'.2]) (by simp) (by kernel_rfl)
      clear hp
      simp only [LatC.op, LatC.dst, LatC.val, LatB.op, LatB.dst, LatB.zs, LatB.ty, List.map, List.cons_append, List.nil_append, putA, Act.put, List.setIfInBounds_toArray, List.set_cons_zero, List.set_cons_succ]
      simp only [q13]
      simp only [q15]
      refine wpOp_step rfl (fun K' hK' => ?_)
      have hK := Lib.hid hK'
      clear hK'
      go_simp
      with_reducible refine (IM.out _).mono ?_
      rintro _ u1 ⟨rfl, hb1⟩
      go_wp2_with fail
      exact hK.out _ _ ⟨rfl, hb1⟩
  · intro b hb; cases hb
  intro t u g ku lu hcs hbs hne
  have t13 : t 13 = .agg #[.int .i64 x.1, .int .i64 x.2, .int .i64 y.1, .int .i64 y.2, .int .i64 z.1, .int .i64 z.2] := hcs (1, 13, .agg #[.int .i64 x.1, .int .i64 x.2, .int .i64 y.1, .int .i64 y.2, .int .i64 z.1, .int .i64 z.2]) (by simp)
  have t15 : t 15 = .agg #[.int .i64 x'.1, .int .i64 x'.2, .int .i64 y'.1, .int .i64 y'.2, .int .i64 z'.1, .int .i64 z'.2] := hcs (3, 15, .agg #[.int .i64 x'.1, .int .i64 x'.2, .int .i64 y'.1, .int .i64 y'.2, .int .i64 z'.1, .int .i64 z'.2]) (by simp)
  have t16 : t 16 = .bool val := hcs (4, 16, .bool val) (by simp)
  clear hcs hbs hne
  simp only [LatC.op, LatC.dst, LatC.val, LatB.op, LatB.dst, LatB.zs, LatB.ty, List.map, List.cons_append, List.nil_append, setL, if_true, putA, Act.put, List.setIfInBounds_toArray, List.set_cons_zero, List.set_cons_succ, t13, t15, t16]
  clear t13 t15 t16
  refine AnyS.one (i := 5) (by kernel_rfl) (AnyS.comes rfl (fun K hK => ?_))
  go_simp
  refine hK.out _ _ (fun h => absurd h (by decide)) ?_
  clear hK K
  try simp only [Act.put, List.getElem_toArray, List.getElem_cons_zero, List.getElem_cons_succ, List.setIfInBounds_toArray, List.set_cons_zero, List.set_cons_succ]
  refine AnyS.done (by kernel_rfl) ?_ _
  have bk' := ku.2.2
  cases val
  · go_wp2
    go_ret
    exact ⟨rfl, bk'⟩
  · go_wp2
    go_ret
    exact ⟨rfl, bk'⟩
end Go.Proofs.Ytmikjgbojknlnaa
