/- Contract of the model's vector products. Conditions: numbers are int64. -/
import Derived.Test.YtmikjgbojknlnaaIvM
import Derived.Test.YtmikjgbojknlnaaIvW
import Derived.Test.YtmikjgbojknlnaaNumP
import Derived.Test.YtmikjgbojknlnaaLat
import Derived.Deep.RegionHeld3
import Derived.Deep.DeepCutAuto
import Derived.Outline
namespace Go.Proofs.Ytmikjgbojknlnaa
open Go.ChangeShapes Go.WideShapes Go.ChangeAt Go.RowKit
set_option linter.unusedVariables false
set_option maxRecDepth 100000
set_option linter.unusedSimpArgs false
set_option maxHeartbeats 1000000
set_option maxHeartbeats 32000000 in
theorem sCrossV_any (x y z x' y' z' : Iv) (w : World) : Calls Try.prog 65 #[.agg #[.int .i64 x.1, .int .i64 x.2, .int .i64 y.1, .int .i64 y.2, .int .i64 z.1, .int .i64 z.2], .agg #[.int .i64 x'.1, .int .i64 x'.2, .int .i64 y'.1, .int .i64 y'.2, .int .i64 z'.1, .int .i64 z'.2]] w fun e w' =>
    e = .returned (.agg #[.int .i64 (subI (mulI y z') (mulI z y')).1, .int .i64 (subI (mulI y z') (mulI z y')).2, .int .i64 (subI (mulI z x') (mulI x z')).1, .int .i64 (subI (mulI z x') (mulI x z')).2, .int .i64 (subI (mulI x y') (mulI y x')).1, .int .i64 (subI (mulI x y') (mulI y x')).2]) ∧ Below w.heap.size w w' := by
  have SC0 := Lib.hid (fun w => sSubI_any (mulI y z') (mulI z y') w)
  have SC1 := Lib.hid (fun w => sSubI_any (mulI z x') (mulI x z') w)
  have SC2 := Lib.hid (fun w => sSubI_any (mulI x y') (mulI y x') w)
  generalize subI (mulI y z') (mulI z y') = c0 at *
  generalize subI (mulI z x') (mulI x z') = c1 at *
  generalize subI (mulI x y') (mulI y x') = c2 at *
  go_enter Try.func65, Try.ntmps65
  go_upto_region 1 with fail
  refine AnyS.enter (K := RowsK w [(w.heap.size, [.int .i64 x.1, .int .i64 x.2, .int .i64 y.1, .int .i64 y.2, .int .i64 z.1, .int .i64 z.2]), (w.heap.size + 1, [.int .i64 x'.1, .int .i64 x'.2, .int .i64 y'.1, .int .i64 y'.2, .int .i64 z'.1, .int .i64 z'.2]), (w.heap.size + 1 + 1, [.int .i64 0, .int .i64 0, .int .i64 0, .int .i64 0, .int .i64 0, .int .i64 0])] (fun _ => True)) (s := 12) (by kernel_rfl) ⟨?_, trivial, belS⟩ ?_
  · intro r hr
    simp only [List.mem_cons, List.not_mem_nil, or_false] at hr
    rcases hr with rfl | rfl | rfl
    all_goals (dsimp only; repeat (first | (with_reducible assumption) | (with_reducible exact RowAt.drew (by assumption)) | exact row_nil | refine row_cons (by first | (with_reducible assumption) | (with_reducible exact own_drew (by assumption)) | exact ⟨by simp [go_sem], by simp [go_sem]⟩) ?_))
  intro wd k0
  have lw : w.heap.size ≤ wd.heap.size := k0.2.2.size
  have lt0 : w.heap.size < wd.heap.size := World.block_lt_of_cell? _ _ (((k0.row (b := w.heap.size) (vs := [.int .i64 x.1, .int .i64 x.2, .int .i64 y.1, .int .i64 y.2, .int .i64 z.1, .int .i64 z.2]) (by simp)).at 0 rfl).1)
  have lt1 : w.heap.size + 1 < wd.heap.size := World.block_lt_of_cell? _ _ (((k0.row (b := w.heap.size + 1) (vs := [.int .i64 x'.1, .int .i64 x'.2, .int .i64 y'.1, .int .i64 y'.2, .int .i64 z'.1, .int .i64 z'.2]) (by simp)).at 0 rfl).1)
  have lt2 : w.heap.size + 1 + 1 < wd.heap.size := World.block_lt_of_cell? _ _ (((k0.row (b := w.heap.size + 1 + 1) (vs := [.int .i64 0, .int .i64 0, .int .i64 0, .int .i64 0, .int .i64 0, .int .i64 0]) (by simp)).at 0 rfl).1)
  refine AnyS.take (i := 0) (v := .pointer (some ⟨w.heap.size, 2, none⟩)) (T := fun _ => True) [] rfl (by kernel_rfl) (by kernel_rfl) (by kernel_rfl) (by kernel_rfl) (by kernel_rfl) (fun _ _ _ h => h) (fun L u q h => trivial) (fun L u h => OneS.less (by decide) h) (Or.inl ⟨by rfl, ?_⟩) (fun _ => k0) ?_
  · intro u hu
    clear hu
    go_simp
  try simp only [Act.put, List.getElem_toArray, List.getElem_cons_zero, List.getElem_cons_succ, List.setIfInBounds_toArray, List.set_cons_zero, List.set_cons_succ]
  refine AnyS.take (i := 1) (v := .agg #[.int .i64 y.1, .int .i64 y.2]) (T := RowsK w [(w.heap.size, [.int .i64 x.1, .int .i64 x.2, .int .i64 y.1, .int .i64 y.2, .int .i64 z.1, .int .i64 z.2]), (w.heap.size + 1, [.int .i64 x'.1, .int .i64 x'.2, .int .i64 y'.1, .int .i64 y'.2, .int .i64 z'.1, .int .i64 z'.2]), (w.heap.size + 1 + 1, [.int .i64 0, .int .i64 0, .int .i64 0, .int .i64 0, .int .i64 0, .int .i64 0])] (fun _ => True)) [12] rfl (by kernel_rfl) (by kernel_rfl) (by kernel_rfl) (by kernel_rfl) (by kernel_rfl) (fun _ _ _ h => h) (fun L u q h => h (q 12 (by simp))) (fun L u h => OneS.less (by decide) h) (Or.inl ⟨by rfl, ?_⟩) (fun _ => k0) ?_
  · intro u hu
    have hr0 : RowAt u w.heap.size 0 [.int .i64 x.1, .int .i64 x.2, .int .i64 y.1, .int .i64 y.2, .int .i64 z.1, .int .i64 z.2] := hu.row (by simp)
    have c0_0 := (hr0.at 0 rfl).1
    have c0_1 := (hr0.at 1 rfl).1
    have c0_2 := (hr0.at 2 rfl).1
    have c0_3 := (hr0.at 3 rfl).1
    have c0_4 := (hr0.at 4 rfl).1
    have c0_5 := (hr0.at 5 rfl).1
    have hr1 : RowAt u (w.heap.size + 1) 0 [.int .i64 x'.1, .int .i64 x'.2, .int .i64 y'.1, .int .i64 y'.2, .int .i64 z'.1, .int .i64 z'.2] := hu.row (by simp)
    have c1_0 := (hr1.at 0 rfl).1
    have c1_1 := (hr1.at 1 rfl).1
    have c1_2 := (hr1.at 2 rfl).1
    have c1_3 := (hr1.at 3 rfl).1
    have c1_4 := (hr1.at 4 rfl).1
    have c1_5 := (hr1.at 5 rfl).1
    have hr2 : RowAt u (w.heap.size + 1 + 1) 0 [.int .i64 0, .int .i64 0, .int .i64 0, .int .i64 0, .int .i64 0, .int .i64 0] := hu.row (by simp)
    have c2_0 := (hr2.at 0 rfl).1
    have c2_1 := (hr2.at 1 rfl).1
    have c2_2 := (hr2.at 2 rfl).1
    have c2_3 := (hr2.at 3 rfl).1
    have c2_4 := (hr2.at 4 rfl).1
    have c2_5 := (hr2.at 5 rfl).1
    clear hu
    go_simp
  try simp only [Act.put, List.getElem_toArray, List.getElem_cons_zero, List.getElem_cons_succ, List.setIfInBounds_toArray, List.set_cons_zero, List.set_cons_succ]
  refine AnyS.take (i := 2) (v := .pointer (some ⟨w.heap.size + 1, 4, none⟩)) (T := fun _ => True) [] rfl (by kernel_rfl) (by kernel_rfl) (by kernel_rfl) (by kernel_rfl) (by kernel_rfl) (fun _ _ _ h => h) (fun L u q h => trivial) (fun L u h => OneS.less (by decide) h) (Or.inl ⟨by rfl, ?_⟩) (fun _ => k0) ?_
  · intro u hu
    clear hu
    go_simp
  try simp only [Act.put, List.getElem_toArray, List.getElem_cons_zero, List.getElem_cons_succ, List.setIfInBounds_toArray, List.set_cons_zero, List.set_cons_succ]
  refine AnyS.take (i := 3) (v := .agg #[.int .i64 z'.1, .int .i64 z'.2]) (T := RowsK w [(w.heap.size, [.int .i64 x.1, .int .i64 x.2, .int .i64 y.1, .int .i64 y.2, .int .i64 z.1, .int .i64 z.2]), (w.heap.size + 1, [.int .i64 x'.1, .int .i64 x'.2, .int .i64 y'.1, .int .i64 y'.2, .int .i64 z'.1, .int .i64 z'.2]), (w.heap.size + 1 + 1, [.int .i64 0, .int .i64 0, .int .i64 0, .int .i64 0, .int .i64 0, .int .i64 0])] (fun _ => True)) [12] rfl (by kernel_rfl) (by kernel_rfl) (by kernel_rfl) (by kernel_rfl) (by kernel_rfl) (fun _ _ _ h => h) (fun L u q h => h (q 12 (by simp))) (fun L u h => OneS.less (by decide) h) (Or.inl ⟨by rfl, ?_⟩) (fun _ => k0) ?_
  · intro u hu
    have hr0 : RowAt u w.heap.size 0 [.int .i64 x.1, .int .i64 x.2, .int .i64 y.1, .int .i64 y.2, .int .i64 z.1, .int .i64 z.2] := hu.row (by simp)
    have c0_0 := (hr0.at 0 rfl).1
    have c0_1 := (hr0.at 1 rfl).1
    have c0_2 := (hr0.at 2 rfl).1
    have c0_3 := (hr0.at 3 rfl).1
    have c0_4 := (hr0.at 4 rfl).1
    have c0_5 := (hr0.at 5 rfl).1
    have hr1 : RowAt u (w.heap.size + 1) 0 [.int .i64 x'.1, .int .i64 x'.2, .int .i64 y'.1, .int .i64 y'.2, .int .i64 z'.1, .int .i64 z'.2] := hu.row (by simp)
    have c1_0 := (hr1.at 0 rfl).1
    have c1_1 := (hr1.at 1 rfl).1
    have c1_2 := (hr1.at 2 rfl).1
    have c1_3 := (hr1.at 3 rfl).1
    have c1_4 := (hr1.at 4 rfl).1
    have c1_5 := (hr1.at 5 rfl).1
    have hr2 : RowAt u (w.heap.size + 1 + 1) 0 [.int .i64 0, .int .i64 0, .int .i64 0, .int .i64 0, .int .i64 0, .int .i64 0] := hu.row (by simp)
    have c2_0 := (hr2.at 0 rfl).1
    have c2_1 := (hr2.at 1 rfl).1
    have c2_2 := (hr2.at 2 rfl).1
    have c2_3 := (hr2.at 3 rfl).1
    have c2_4 := (hr2.at 4 rfl).1
    have c2_5 := (hr2.at 5 rfl).1
    clear hu
    go_simp
  try simp only [Act.put, List.getElem_toArray, List.getElem_cons_zero, List.getElem_cons_succ, List.setIfInBounds_toArray, List.set_cons_zero, List.set_cons_succ]
  refine AnyS.take (i := 5) (v := .pointer (some ⟨w.heap.size, 4, none⟩)) (T := fun _ => True) [] rfl (by kernel_rfl) (by kernel_rfl) (by kernel_rfl) (by kernel_rfl) (by kernel_rfl) (fun _ _ _ h => h) (fun L u q h => trivial) (fun L u h => OneS.less (by decide) h) (Or.inl ⟨by rfl, ?_⟩) (fun _ => k0) ?_
  · intro u hu
    clear hu
    go_simp
  try simp only [Act.put, List.getElem_toArray, List.getElem_cons_zero, List.getElem_cons_succ, List.setIfInBounds_toArray, List.set_cons_zero, List.set_cons_succ]
  refine AnyS.take (i := 6) (v := .agg #[.int .i64 z.1, .int .i64 z.2]) (T := RowsK w [(w.heap.size, [.int .i64 x.1, .int .i64 x.2, .int .i64 y.1, .int .i64 y.2, .int .i64 z.1, .int .i64 z.2]), (w.heap.size + 1, [.int .i64 x'.1, .int .i64 x'.2, .int .i64 y'.1, .int .i64 y'.2, .int .i64 z'.1, .int .i64 z'.2]), (w.heap.size + 1 + 1, [.int .i64 0, .int .i64 0, .int .i64 0, .int .i64 0, .int .i64 0, .int .i64 0])] (fun _ => True)) [12] rfl (by kernel_rfl) (by kernel_rfl) (by kernel_rfl) (by kernel_rfl) (by kernel_rfl) (fun _ _ _ h => h) (fun L u q h => h (q 12 (by simp))) (fun L u h => OneS.less (by decide) h) (Or.inl ⟨by rfl, ?_⟩) (fun _ => k0) ?_
  · intro u hu
    have hr0 : RowAt u w.heap.size 0 [.int .i64 x.1, .int .i64 x.2, .int .i64 y.1, .int .i64 y.2, .int .i64 z.1, .int .i64 z.2] := hu.row (by simp)
    have c0_0 := (hr0.at 0 rfl).1
    have c0_1 := (hr0.at 1 rfl).1
    have c0_2 := (hr0.at 2 rfl).1
    have c0_3 := (hr0.at 3 rfl).1
    have c0_4 := (hr0.at 4 rfl).1
    have c0_5 := (hr0.at 5 rfl).1
    have hr1 : RowAt u (w.heap.size + 1) 0 [.int .i64 x'.1, .int .i64 x'.2, .int .i64 y'.1, .int .i64 y'.2, .int .i64 z'.1, .int .i64 z'.2] := hu.row (by simp)
    have c1_0 := (hr1.at 0 rfl).1
    have c1_1 := (hr1.at 1 rfl).1
    have c1_2 := (hr1.at 2 rfl).1
    have c1_3 := (hr1.at 3 rfl).1
    have c1_4 := (hr1.at 4 rfl).1
    have c1_5 := (hr1.at 5 rfl).1
    have hr2 : RowAt u (w.heap.size + 1 + 1) 0 [.int .i64 0, .int .i64 0, .int .i64 0, .int .i64 0, .int .i64 0, .int .i64 0] := hu.row (by simp)
    have c2_0 := (hr2.at 0 rfl).1
    have c2_1 := (hr2.at 1 rfl).1
    have c2_2 := (hr2.at 2 rfl).1
    have c2_3 := (hr2.at 3 rfl).1
    have c2_4 := (hr2.at 4 rfl).1
    have c2_5 := (hr2.at 5 rfl).1
    clear hu
    go_simp
  try simp only [Act.put, List.getElem_toArray, List.getElem_cons_zero, List.getElem_cons_succ, List.setIfInBounds_toArray, List.set_cons_zero, List.set_cons_succ]
  refine AnyS.take (i := 7) (v := .pointer (some ⟨w.heap.size + 1, 2, none⟩)) (T := fun _ => True) [] rfl (by kernel_rfl) (by kernel_rfl) (by kernel_rfl) (by kernel_rfl) (by kernel_rfl) (fun _ _ _ h => h) (fun L u q h => trivial) (fun L u h => OneS.less (by decide) h) (Or.inl ⟨by rfl, ?_⟩) (fun _ => k0) ?_
  · intro u hu
    clear hu
    go_simp
  try simp only [Act.put, List.getElem_toArray, List.getElem_cons_zero, List.getElem_cons_succ, List.setIfInBounds_toArray, List.set_cons_zero, List.set_cons_succ]
  refine AnyS.take (i := 8) (v := .agg #[.int .i64 y'.1, .int .i64 y'.2]) (T := RowsK w [(w.heap.size, [.int .i64 x.1, .int .i64 x.2, .int .i64 y.1, .int .i64 y.2, .int .i64 z.1, .int .i64 z.2]), (w.heap.size + 1, [.int .i64 x'.1, .int .i64 x'.2, .int .i64 y'.1, .int .i64 y'.2, .int .i64 z'.1, .int .i64 z'.2]), (w.heap.size + 1 + 1, [.int .i64 0, .int .i64 0, .int .i64 0, .int .i64 0, .int .i64 0, .int .i64 0])] (fun _ => True)) [12] rfl (by kernel_rfl) (by kernel_rfl) (by kernel_rfl) (by kernel_rfl) (by kernel_rfl) (fun _ _ _ h => h) (fun L u q h => h (q 12 (by simp))) (fun L u h => OneS.less (by decide) h) (Or.inl ⟨by rfl, ?_⟩) (fun _ => k0) ?_
  · intro u hu
    have hr0 : RowAt u w.heap.size 0 [.int .i64 x.1, .int .i64 x.2, .int .i64 y.1, .int .i64 y.2, .int .i64 z.1, .int .i64 z.2] := hu.row (by simp)
    have c0_0 := (hr0.at 0 rfl).1
    have c0_1 := (hr0.at 1 rfl).1
    have c0_2 := (hr0.at 2 rfl).1
    have c0_3 := (hr0.at 3 rfl).1
    have c0_4 := (hr0.at 4 rfl).1
    have c0_5 := (hr0.at 5 rfl).1
    have hr1 : RowAt u (w.heap.size + 1) 0 [.int .i64 x'.1, .int .i64 x'.2, .int .i64 y'.1, .int .i64 y'.2, .int .i64 z'.1, .int .i64 z'.2] := hu.row (by simp)
    have c1_0 := (hr1.at 0 rfl).1
    have c1_1 := (hr1.at 1 rfl).1
    have c1_2 := (hr1.at 2 rfl).1
    have c1_3 := (hr1.at 3 rfl).1
    have c1_4 := (hr1.at 4 rfl).1
    have c1_5 := (hr1.at 5 rfl).1
    have hr2 : RowAt u (w.heap.size + 1 + 1) 0 [.int .i64 0, .int .i64 0, .int .i64 0, .int .i64 0, .int .i64 0, .int .i64 0] := hu.row (by simp)
    have c2_0 := (hr2.at 0 rfl).1
    have c2_1 := (hr2.at 1 rfl).1
    have c2_2 := (hr2.at 2 rfl).1
    have c2_3 := (hr2.at 3 rfl).1
    have c2_4 := (hr2.at 4 rfl).1
    have c2_5 := (hr2.at 5 rfl).1
    clear hu
    go_simp
  try simp only [Act.put, List.getElem_toArray, List.getElem_cons_zero, List.getElem_cons_succ, List.setIfInBounds_toArray, List.set_cons_zero, List.set_cons_succ]
  refine AnyS.std (n := 1) [(4, 12, .agg #[.int .i64 (mulI y z').1, .int .i64 (mulI y z').2]), (9, 17, .agg #[.int .i64 (mulI z y').1, .int .i64 (mulI z y').2]), (10, 18, .agg #[.int .i64 c0.1, .int .i64 c0.2])] [(11, 5, [.int .i64 0, .int .i64 0], 31)] (RowsK w [(w.heap.size, [.int .i64 x.1, .int .i64 x.2, .int .i64 y.1, .int .i64 y.2, .int .i64 z.1, .int .i64 z.2]), (w.heap.size + 1, [.int .i64 x'.1, .int .i64 x'.2, .int .i64 y'.1, .int .i64 y'.2, .int .i64 z'.1, .int .i64 z'.2]), (w.heap.size + 1 + 1, [.int .i64 0, .int .i64 0, .int .i64 0, .int .i64 0, .int .i64 0, .int .i64 0])] (fun _ => True)) (wd.heap.size) (fun u u' h hb => h.kept (fun _ _ h _ => h) hb) (by kernel_rfl) (by kernel_rfl) (by kernel_rfl) (by kernel_rfl) (fun u L h _ => h) k0 (Nat.le_refl _) ?_ ?_ ?_
  · intro c hc t u ku lu hp
    simp only [List.mem_cons, List.not_mem_nil, or_false] at hc
    rcases hc with rfl | rfl | rfl
    · clear hp
      simp only [LatC.op, LatC.dst, LatC.val, LatB.op, LatB.dst, LatB.zs, LatB.ty, List.map, List.cons_append, List.nil_append, putA, Act.put, List.setIfInBounds_toArray, List.set_cons_zero, List.set_cons_succ]
      refine wpOp_step rfl (fun K' hK' => ?_)
      have hK := Lib.hid hK'
      clear hK'
      go_simp
      with_reducible refine (sMulI_any y z' _).mono ?_
      rintro _ u1 ⟨rfl, hb1⟩
      go_wp2_with fail
      exact hK.out _ _ ⟨rfl, hb1⟩
    · clear hp
      simp only [LatC.op, LatC.dst, LatC.val, LatB.op, LatB.dst, LatB.zs, LatB.ty, List.map, List.cons_append, List.nil_append, putA, Act.put, List.setIfInBounds_toArray, List.set_cons_zero, List.set_cons_succ]
      refine wpOp_step rfl (fun K' hK' => ?_)
      have hK := Lib.hid hK'
      clear hK'
      go_simp
      with_reducible refine (sMulI_any z y' _).mono ?_
      rintro _ u1 ⟨rfl, hb1⟩
      go_wp2_with fail
      exact hK.out _ _ ⟨rfl, hb1⟩
    · have q12 : t 12 = .agg #[.int .i64 (mulI y z').1, .int .i64 (mulI y z').2] := hp (4, 12, .agg #[.int .i64 (mulI y z').1, .int .i64 (mulI y z').2]) (by simp) (by kernel_rfl)
      have q17 : t 17 = .agg #[.int .i64 (mulI z y').1, .int .i64 (mulI z y').2] := hp (9, 17, .agg #[.int .i64 (mulI z y').1, .int .i64 (mulI z y').2]) (by simp) (by kernel_rfl)
      clear hp
      simp only [LatC.op, LatC.dst, LatC.val, LatB.op, LatB.dst, LatB.zs, LatB.ty, List.map, List.cons_append, List.nil_append, putA, Act.put, List.setIfInBounds_toArray, List.set_cons_zero, List.set_cons_succ]
      simp only [q12]
      simp only [q17]
      refine wpOp_step rfl (fun K' hK' => ?_)
      have hK := Lib.hid hK'
      clear hK'
      go_simp
      with_reducible refine (SC0.out _).mono ?_
      rintro _ u1 ⟨rfl, hb1⟩
      go_wp2_with fail
      exact hK.out _ _ ⟨rfl, hb1⟩
  · intro b hb t u ku
    simp only [List.mem_cons, List.not_mem_nil, or_false] at hb
    rcases hb with rfl
    all_goals (simp only [LatC.op, LatC.dst, LatC.val, LatB.op, LatB.dst, LatB.zs, LatB.ty, List.map, List.cons_append, List.nil_append, putA, Act.put, List.setIfInBounds_toArray, List.set_cons_zero, List.set_cons_succ]; refine wpOp_step rfl (fun K' hK' => ?_); have hK := Lib.hid hK'; clear hK'; go_simp; exact hK.out _ _ ⟨rfl, rfl⟩)
  intro t u g ku lu hcs hbs hne
  have t12 : t 12 = .agg #[.int .i64 (mulI y z').1, .int .i64 (mulI y z').2] := hcs (4, 12, .agg #[.int .i64 (mulI y z').1, .int .i64 (mulI y z').2]) (by simp)
  have t17 : t 17 = .agg #[.int .i64 (mulI z y').1, .int .i64 (mulI z y').2] := hcs (9, 17, .agg #[.int .i64 (mulI z y').1, .int .i64 (mulI z y').2]) (by simp)
  have t18 : t 18 = .agg #[.int .i64 c0.1, .int .i64 c0.2] := hcs (10, 18, .agg #[.int .i64 c0.1, .int .i64 c0.2]) (by simp)
  obtain ⟨t5, lg5, _, hr5⟩ := hbs (11, 5, [.int .i64 0, .int .i64 0], 31) (by simp)
  simp only [LatB.op, LatB.dst] at t5 lg5 hr5
  have b5_0 : Own u (g 11) 0 (.int .i64 0) := hr5 0 _ rfl
  have b5_1 : Own u (g 11) 1 (.int .i64 0) := hr5 1 _ rfl
  clear hr5
  clear hcs hbs hne
  generalize g 11 = g5 at *
  simp only [LatC.op, LatC.dst, LatC.val, LatB.op, LatB.dst, LatB.zs, LatB.ty, List.map, List.cons_append, List.nil_append, setL, if_true, putA, Act.put, List.setIfInBounds_toArray, List.set_cons_zero, List.set_cons_succ, t12, t17, t18, t5]
  clear t12 t17 t18 t5
  have sc0 := b5_0.1
  have sc1 := b5_1.1
  have sf0 := b5_0.2
  have sf1 := b5_1.2
  refine AnyS.one (i := 12) (by kernel_rfl) (AnyS.comes rfl (fun K hK => ?_))
  go_simp
  refine hK.out _ _ (fun h => absurd h (by decide)) ?_
  clear hK K
  try simp only [Act.put, List.getElem_toArray, List.getElem_cons_zero, List.getElem_cons_succ, List.setIfInBounds_toArray, List.set_cons_zero, List.set_cons_succ]
  clear sc0 sf0 sc1 sf1
  obtain ⟨vk00, hv⟩ : ∃ q : World, q = ((u.setCell ⟨g5, 0, none⟩ (.int .i64 c0.1)).setCell ⟨g5, 1, none⟩ (.int .i64 c0.2)) := ⟨_, rfl⟩
  rw [← hv]
  have n5_0 : Own vk00 g5 0 (.int .i64 c0.1) := by rw [hv]; exact (own_next (by decide) (own_put b5_0))
  have n5_1 : Own vk00 g5 1 (.int .i64 c0.2) := by rw [hv]; exact (own_put (own_next (by decide) b5_1))
  have bn : Below w.heap.size w vk00 := by rw [hv]; exact Below.setCell (Below.setCell (ku.2.2) (by dsimp only; omega) _) (by dsimp only; omega) _
  have m0_0 : Own vk00 w.heap.size 0 (.int .i64 x.1) := by rw [hv]; exact (own_far (by dsimp only; omega) (own_far (by dsimp only; omega) ((ku.row (b := w.heap.size) (vs := [.int .i64 x.1, .int .i64 x.2, .int .i64 y.1, .int .i64 y.2, .int .i64 z.1, .int .i64 z.2]) (by simp)).at 0 rfl)))
  have m0_1 : Own vk00 w.heap.size 1 (.int .i64 x.2) := by rw [hv]; exact (own_far (by dsimp only; omega) (own_far (by dsimp only; omega) ((ku.row (b := w.heap.size) (vs := [.int .i64 x.1, .int .i64 x.2, .int .i64 y.1, .int .i64 y.2, .int .i64 z.1, .int .i64 z.2]) (by simp)).at 1 rfl)))
  have m0_2 : Own vk00 w.heap.size 2 (.int .i64 y.1) := by rw [hv]; exact (own_far (by dsimp only; omega) (own_far (by dsimp only; omega) ((ku.row (b := w.heap.size) (vs := [.int .i64 x.1, .int .i64 x.2, .int .i64 y.1, .int .i64 y.2, .int .i64 z.1, .int .i64 z.2]) (by simp)).at 2 rfl)))
  have m0_3 : Own vk00 w.heap.size 3 (.int .i64 y.2) := by rw [hv]; exact (own_far (by dsimp only; omega) (own_far (by dsimp only; omega) ((ku.row (b := w.heap.size) (vs := [.int .i64 x.1, .int .i64 x.2, .int .i64 y.1, .int .i64 y.2, .int .i64 z.1, .int .i64 z.2]) (by simp)).at 3 rfl)))
  have m0_4 : Own vk00 w.heap.size 4 (.int .i64 z.1) := by rw [hv]; exact (own_far (by dsimp only; omega) (own_far (by dsimp only; omega) ((ku.row (b := w.heap.size) (vs := [.int .i64 x.1, .int .i64 x.2, .int .i64 y.1, .int .i64 y.2, .int .i64 z.1, .int .i64 z.2]) (by simp)).at 4 rfl)))
  have m0_5 : Own vk00 w.heap.size 5 (.int .i64 z.2) := by rw [hv]; exact (own_far (by dsimp only; omega) (own_far (by dsimp only; omega) ((ku.row (b := w.heap.size) (vs := [.int .i64 x.1, .int .i64 x.2, .int .i64 y.1, .int .i64 y.2, .int .i64 z.1, .int .i64 z.2]) (by simp)).at 5 rfl)))
  have m1_0 : Own vk00 (w.heap.size + 1) 0 (.int .i64 x'.1) := by rw [hv]; exact (own_far (by dsimp only; omega) (own_far (by dsimp only; omega) ((ku.row (b := w.heap.size + 1) (vs := [.int .i64 x'.1, .int .i64 x'.2, .int .i64 y'.1, .int .i64 y'.2, .int .i64 z'.1, .int .i64 z'.2]) (by simp)).at 0 rfl)))
  have m1_1 : Own vk00 (w.heap.size + 1) 1 (.int .i64 x'.2) := by rw [hv]; exact (own_far (by dsimp only; omega) (own_far (by dsimp only; omega) ((ku.row (b := w.heap.size + 1) (vs := [.int .i64 x'.1, .int .i64 x'.2, .int .i64 y'.1, .int .i64 y'.2, .int .i64 z'.1, .int .i64 z'.2]) (by simp)).at 1 rfl)))
  have m1_2 : Own vk00 (w.heap.size + 1) 2 (.int .i64 y'.1) := by rw [hv]; exact (own_far (by dsimp only; omega) (own_far (by dsimp only; omega) ((ku.row (b := w.heap.size + 1) (vs := [.int .i64 x'.1, .int .i64 x'.2, .int .i64 y'.1, .int .i64 y'.2, .int .i64 z'.1, .int .i64 z'.2]) (by simp)).at 2 rfl)))
  have m1_3 : Own vk00 (w.heap.size + 1) 3 (.int .i64 y'.2) := by rw [hv]; exact (own_far (by dsimp only; omega) (own_far (by dsimp only; omega) ((ku.row (b := w.heap.size + 1) (vs := [.int .i64 x'.1, .int .i64 x'.2, .int .i64 y'.1, .int .i64 y'.2, .int .i64 z'.1, .int .i64 z'.2]) (by simp)).at 3 rfl)))
  have m1_4 : Own vk00 (w.heap.size + 1) 4 (.int .i64 z'.1) := by rw [hv]; exact (own_far (by dsimp only; omega) (own_far (by dsimp only; omega) ((ku.row (b := w.heap.size + 1) (vs := [.int .i64 x'.1, .int .i64 x'.2, .int .i64 y'.1, .int .i64 y'.2, .int .i64 z'.1, .int .i64 z'.2]) (by simp)).at 4 rfl)))
  have m1_5 : Own vk00 (w.heap.size + 1) 5 (.int .i64 z'.2) := by rw [hv]; exact (own_far (by dsimp only; omega) (own_far (by dsimp only; omega) ((ku.row (b := w.heap.size + 1) (vs := [.int .i64 x'.1, .int .i64 x'.2, .int .i64 y'.1, .int .i64 y'.2, .int .i64 z'.1, .int .i64 z'.2]) (by simp)).at 5 rfl)))
  have m2_0 : Own vk00 (w.heap.size + 1 + 1) 0 (.int .i64 0) := by rw [hv]; exact (own_far (by dsimp only; omega) (own_far (by dsimp only; omega) ((ku.row (b := w.heap.size + 1 + 1) (vs := [.int .i64 0, .int .i64 0, .int .i64 0, .int .i64 0, .int .i64 0, .int .i64 0]) (by simp)).at 0 rfl)))
  have m2_1 : Own vk00 (w.heap.size + 1 + 1) 1 (.int .i64 0) := by rw [hv]; exact (own_far (by dsimp only; omega) (own_far (by dsimp only; omega) ((ku.row (b := w.heap.size + 1 + 1) (vs := [.int .i64 0, .int .i64 0, .int .i64 0, .int .i64 0, .int .i64 0, .int .i64 0]) (by simp)).at 1 rfl)))
  have m2_2 : Own vk00 (w.heap.size + 1 + 1) 2 (.int .i64 0) := by rw [hv]; exact (own_far (by dsimp only; omega) (own_far (by dsimp only; omega) ((ku.row (b := w.heap.size + 1 + 1) (vs := [.int .i64 0, .int .i64 0, .int .i64 0, .int .i64 0, .int .i64 0, .int .i64 0]) (by simp)).at 2 rfl)))
  have m2_3 : Own vk00 (w.heap.size + 1 + 1) 3 (.int .i64 0) := by rw [hv]; exact (own_far (by dsimp only; omega) (own_far (by dsimp only; omega) ((ku.row (b := w.heap.size + 1 + 1) (vs := [.int .i64 0, .int .i64 0, .int .i64 0, .int .i64 0, .int .i64 0, .int .i64 0]) (by simp)).at 3 rfl)))
  have m2_4 : Own vk00 (w.heap.size + 1 + 1) 4 (.int .i64 0) := by rw [hv]; exact (own_far (by dsimp only; omega) (own_far (by dsimp only; omega) ((ku.row (b := w.heap.size + 1 + 1) (vs := [.int .i64 0, .int .i64 0, .int .i64 0, .int .i64 0, .int .i64 0, .int .i64 0]) (by simp)).at 4 rfl)))
  have m2_5 : Own vk00 (w.heap.size + 1 + 1) 5 (.int .i64 0) := by rw [hv]; exact (own_far (by dsimp only; omega) (own_far (by dsimp only; omega) ((ku.row (b := w.heap.size + 1 + 1) (vs := [.int .i64 0, .int .i64 0, .int .i64 0, .int .i64 0, .int .i64 0, .int .i64 0]) (by simp)).at 5 rfl)))
  clear hv b5_0 b5_1 
  have b5_0 := n5_0
  have b5_1 := n5_1
  have bk := bn
  clear bn n5_0 n5_1
  have r0_0 := m0_0
  have r0_1 := m0_1
  have r0_2 := m0_2
  have r0_3 := m0_3
  have r0_4 := m0_4
  have r0_5 := m0_5
  have r1_0 := m1_0
  have r1_1 := m1_1
  have r1_2 := m1_2
  have r1_3 := m1_3
  have r1_4 := m1_4
  have r1_5 := m1_5
  have r2_0 := m2_0
  have r2_1 := m2_1
  have r2_2 := m2_2
  have r2_3 := m2_3
  have r2_4 := m2_4
  have r2_5 := m2_5
  clear m0_0 m0_1 m0_2 m0_3 m0_4 m0_5 m1_0 m1_1 m1_2 m1_3 m1_4 m1_5 m2_0 m2_1 m2_2 m2_3 m2_4 m2_5
  refine AnyS.done (by kernel_rfl) ?_ _
  clear ku lu lg5 lw k0 lt0 lt1 lt2
  go_upto_region 2 with fail
  refine AnyS.enter (K := RowsK w [(w.heap.size, [.int .i64 x.1, .int .i64 x.2, .int .i64 y.1, .int .i64 y.2, .int .i64 z.1, .int .i64 z.2]), (w.heap.size + 1, [.int .i64 x'.1, .int .i64 x'.2, .int .i64 y'.1, .int .i64 y'.2, .int .i64 z'.1, .int .i64 z'.2]), (w.heap.size + 1 + 1, [.int .i64 0, .int .i64 0, .int .i64 0, .int .i64 0, .int .i64 0, .int .i64 0]), (g5, [.int .i64 c0.1, .int .i64 c0.2])] (fun _ => True)) (s := 12) (by kernel_rfl) ⟨?_, trivial, belS⟩ ?_
  · intro r hr
    simp only [List.mem_cons, List.not_mem_nil, or_false] at hr
    rcases hr with rfl | rfl | rfl | rfl
    all_goals (dsimp only; repeat (first | (with_reducible assumption) | (with_reducible exact RowAt.drew (by assumption)) | exact row_nil | refine row_cons (by first | (with_reducible assumption) | (with_reducible exact own_drew (by assumption)) | exact ⟨by simp [go_sem], by simp [go_sem]⟩) ?_))
  intro wd k0
  have lw : w.heap.size ≤ wd.heap.size := k0.2.2.size
  have lt0 : w.heap.size < wd.heap.size := World.block_lt_of_cell? _ _ (((k0.row (b := w.heap.size) (vs := [.int .i64 x.1, .int .i64 x.2, .int .i64 y.1, .int .i64 y.2, .int .i64 z.1, .int .i64 z.2]) (by simp)).at 0 rfl).1)
  have lt1 : w.heap.size + 1 < wd.heap.size := World.block_lt_of_cell? _ _ (((k0.row (b := w.heap.size + 1) (vs := [.int .i64 x'.1, .int .i64 x'.2, .int .i64 y'.1, .int .i64 y'.2, .int .i64 z'.1, .int .i64 z'.2]) (by simp)).at 0 rfl).1)
  have lt2 : w.heap.size + 1 + 1 < wd.heap.size := World.block_lt_of_cell? _ _ (((k0.row (b := w.heap.size + 1 + 1) (vs := [.int .i64 0, .int .i64 0, .int .i64 0, .int .i64 0, .int .i64 0, .int .i64 0]) (by simp)).at 0 rfl).1)
  have lt3 : g5 < wd.heap.size := World.block_lt_of_cell? _ _ (((k0.row (b := g5) (vs := [.int .i64 c0.1, .int .i64 c0.2]) (by simp)).at 0 rfl).1)
  refine AnyS.take (i := 0) (v := .pointer (some ⟨w.heap.size, 4, none⟩)) (T := fun _ => True) [] rfl (by kernel_rfl) (by kernel_rfl) (by kernel_rfl) (by kernel_rfl) (by kernel_rfl) (fun _ _ _ h => h) (fun L u q h => trivial) (fun L u h => OneS.less (by decide) h) (Or.inl ⟨by rfl, ?_⟩) (fun _ => k0) ?_
  · intro u hu
    clear hu
    go_simp
  try simp only [Act.put, List.getElem_toArray, List.getElem_cons_zero, List.getElem_cons_succ, List.setIfInBounds_toArray, List.set_cons_zero, List.set_cons_succ]
  refine AnyS.take (i := 1) (v := .agg #[.int .i64 z.1, .int .i64 z.2]) (T := RowsK w [(w.heap.size, [.int .i64 x.1, .int .i64 x.2, .int .i64 y.1, .int .i64 y.2, .int .i64 z.1, .int .i64 z.2]), (w.heap.size + 1, [.int .i64 x'.1, .int .i64 x'.2, .int .i64 y'.1, .int .i64 y'.2, .int .i64 z'.1, .int .i64 z'.2]), (w.heap.size + 1 + 1, [.int .i64 0, .int .i64 0, .int .i64 0, .int .i64 0, .int .i64 0, .int .i64 0]), (g5, [.int .i64 c0.1, .int .i64 c0.2])] (fun _ => True)) [12] rfl (by kernel_rfl) (by kernel_rfl) (by kernel_rfl) (by kernel_rfl) (by kernel_rfl) (fun _ _ _ h => h) (fun L u q h => h (q 12 (by simp))) (fun L u h => OneS.less (by decide) h) (Or.inl ⟨by rfl, ?_⟩) (fun _ => k0) ?_
  · intro u hu
    have hr0 : RowAt u w.heap.size 0 [.int .i64 x.1, .int .i64 x.2, .int .i64 y.1, .int .i64 y.2, .int .i64 z.1, .int .i64 z.2] := hu.row (by simp)
    have c0_0 := (hr0.at 0 rfl).1
    have c0_1 := (hr0.at 1 rfl).1
    have c0_2 := (hr0.at 2 rfl).1
    have c0_3 := (hr0.at 3 rfl).1
    have c0_4 := (hr0.at 4 rfl).1
    have c0_5 := (hr0.at 5 rfl).1
    have hr1 : RowAt u (w.heap.size + 1) 0 [.int .i64 x'.1, .int .i64 x'.2, .int .i64 y'.1, .int .i64 y'.2, .int .i64 z'.1, .int .i64 z'.2] := hu.row (by simp)
    have c1_0 := (hr1.at 0 rfl).1
    have c1_1 := (hr1.at 1 rfl).1
    have c1_2 := (hr1.at 2 rfl).1
    have c1_3 := (hr1.at 3 rfl).1
    have c1_4 := (hr1.at 4 rfl).1
    have c1_5 := (hr1.at 5 rfl).1
    have hr2 : RowAt u (w.heap.size + 1 + 1) 0 [.int .i64 0, .int .i64 0, .int .i64 0, .int .i64 0, .int .i64 0, .int .i64 0] := hu.row (by simp)
    have c2_0 := (hr2.at 0 rfl).1
    have c2_1 := (hr2.at 1 rfl).1
    have c2_2 := (hr2.at 2 rfl).1
    have c2_3 := (hr2.at 3 rfl).1
    have c2_4 := (hr2.at 4 rfl).1
    have c2_5 := (hr2.at 5 rfl).1
    have hr3 : RowAt u g5 0 [.int .i64 c0.1, .int .i64 c0.2] := hu.row (by simp)
    have c3_0 := (hr3.at 0 rfl).1
    have c3_1 := (hr3.at 1 rfl).1
    clear hu
    go_simp
  try simp only [Act.put, List.getElem_toArray, List.getElem_cons_zero, List.getElem_cons_succ, List.setIfInBounds_toArray, List.set_cons_zero, List.set_cons_succ]
  refine AnyS.take (i := 2) (v := .pointer (some ⟨w.heap.size + 1, 0, none⟩)) (T := fun _ => True) [] rfl (by kernel_rfl) (by kernel_rfl) (by kernel_rfl) (by kernel_rfl) (by kernel_rfl) (fun _ _ _ h => h) (fun L u q h => trivial) (fun L u h => OneS.less (by decide) h) (Or.inl ⟨by rfl, ?_⟩) (fun _ => k0) ?_
  · intro u hu
    clear hu
    go_simp
  try simp only [Act.put, List.getElem_toArray, List.getElem_cons_zero, List.getElem_cons_succ, List.setIfInBounds_toArray, List.set_cons_zero, List.set_cons_succ]
  refine AnyS.take (i := 3) (v := .agg #[.int .i64 x'.1, .int .i64 x'.2]) (T := RowsK w [(w.heap.size, [.int .i64 x.1, .int .i64 x.2, .int .i64 y.1, .int .i64 y.2, .int .i64 z.1, .int .i64 z.2]), (w.heap.size + 1, [.int .i64 x'.1, .int .i64 x'.2, .int .i64 y'.1, .int .i64 y'.2, .int .i64 z'.1, .int .i64 z'.2]), (w.heap.size + 1 + 1, [.int .i64 0, .int .i64 0, .int .i64 0, .int .i64 0, .int .i64 0, .int .i64 0]), (g5, [.int .i64 c0.1, .int .i64 c0.2])] (fun _ => True)) [12] rfl (by kernel_rfl) (by kernel_rfl) (by kernel_rfl) (by kernel_rfl) (by kernel_rfl) (fun _ _ _ h => h) (fun L u q h => h (q 12 (by simp))) (fun L u h => OneS.less (by decide) h) (Or.inl ⟨by rfl, ?_⟩) (fun _ => k0) ?_
  · intro u hu
    have hr0 : RowAt u w.heap.size 0 [.int .i64 x.1, .int .i64 x.2, .int .i64 y.1, .int .i64 y.2, .int .i64 z.1, .int .i64 z.2] := hu.row (by simp)
    have c0_0 := (hr0.at 0 rfl).1
    have c0_1 := (hr0.at 1 rfl).1
    have c0_2 := (hr0.at 2 rfl).1
    have c0_3 := (hr0.at 3 rfl).1
    have c0_4 := (hr0.at 4 rfl).1
    have c0_5 := (hr0.at 5 rfl).1
    have hr1 : RowAt u (w.heap.size + 1) 0 [.int .i64 x'.1, .int .i64 x'.2, .int .i64 y'.1, .int .i64 y'.2, .int .i64 z'.1, .int .i64 z'.2] := hu.row (by simp)
    have c1_0 := (hr1.at 0 rfl).1
    have c1_1 := (hr1.at 1 rfl).1
    have c1_2 := (hr1.at 2 rfl).1
    have c1_3 := (hr1.at 3 rfl).1
    have c1_4 := (hr1.at 4 rfl).1
    have c1_5 := (hr1.at 5 rfl).1
    have hr2 : RowAt u (w.heap.size + 1 + 1) 0 [.int .i64 0, .int .i64 0, .int .i64 0, .int .i64 0, .int .i64 0, .int .i64 0] := hu.row (by simp)
    have c2_0 := (hr2.at 0 rfl).1
    have c2_1 := (hr2.at 1 rfl).1
    have c2_2 := (hr2.at 2 rfl).1
    have c2_3 := (hr2.at 3 rfl).1
    have c2_4 := (hr2.at 4 rfl).1
    have c2_5 := (hr2.at 5 rfl).1
    have hr3 : RowAt u g5 0 [.int .i64 c0.1, .int .i64 c0.2] := hu.row (by simp)
    have c3_0 := (hr3.at 0 rfl).1
    have c3_1 := (hr3.at 1 rfl).1
    clear hu
    go_simp
  try simp only [Act.put, List.getElem_toArray, List.getElem_cons_zero, List.getElem_cons_succ, List.setIfInBounds_toArray, List.set_cons_zero, List.set_cons_succ]
  refine AnyS.take (i := 5) (v := .pointer (some ⟨w.heap.size, 0, none⟩)) (T := fun _ => True) [] rfl (by kernel_rfl) (by kernel_rfl) (by kernel_rfl) (by kernel_rfl) (by kernel_rfl) (fun _ _ _ h => h) (fun L u q h => trivial) (fun L u h => OneS.less (by decide) h) (Or.inl ⟨by rfl, ?_⟩) (fun _ => k0) ?_
  · intro u hu
    clear hu
    go_simp
  try simp only [Act.put, List.getElem_toArray, List.getElem_cons_zero, List.getElem_cons_succ, List.setIfInBounds_toArray, List.set_cons_zero, List.set_cons_succ]
  refine AnyS.take (i := 6) (v := .agg #[.int .i64 x.1, .int .i64 x.2]) (T := RowsK w [(w.heap.size, [.int .i64 x.1, .int .i64 x.2, .int .i64 y.1, .int .i64 y.2, .int .i64 z.1, .int .i64 z.2]), (w.heap.size + 1, [.int .i64 x'.1, .int .i64 x'.2, .int .i64 y'.1, .int .i64 y'.2, .int .i64 z'.1, .int .i64 z'.2]), (w.heap.size + 1 + 1, [.int .i64 0, .int .i64 0, .int .i64 0, .int .i64 0, .int .i64 0, .int .i64 0]), (g5, [.int .i64 c0.1, .int .i64 c0.2])] (fun _ => True)) [12] rfl (by kernel_rfl) (by kernel_rfl) (by kernel_rfl) (by kernel_rfl) (by kernel_rfl) (fun _ _ _ h => h) (fun L u q h => h (q 12 (by simp))) (fun L u h => OneS.less (by decide) h) (Or.inl ⟨by rfl, ?_⟩) (fun _ => k0) ?_
  · intro u hu
    have hr0 : RowAt u w.heap.size 0 [.int .i64 x.1, .int .i64 x.2, .int .i64 y.1, .int .i64 y.2, .int .i64 z.1, .int .i64 z.2] := hu.row (by simp)
    have c0_0 := (hr0.at 0 rfl).1
    have c0_1 := (hr0.at 1 rfl).1
    have c0_2 := (hr0.at 2 rfl).1
    have c0_3 := (hr0.at 3 rfl).1
    have c0_4 := (hr0.at 4 rfl).1
    have c0_5 := (hr0.at 5 rfl).1
    have hr1 : RowAt u (w.heap.size + 1) 0 [.int .i64 x'.1, .int .i64 x'.2, .int .i64 y'.1, .int .i64 y'.2, .int .i64 z'.1, .int .i64 z'.2] := hu.row (by simp)
    have c1_0 := (hr1.at 0 rfl).1
    have c1_1 := (hr1.at 1 rfl).1
    have c1_2 := (hr1.at 2 rfl).1
    have c1_3 := (hr1.at 3 rfl).1
    have c1_4 := (hr1.at 4 rfl).1
    have c1_5 := (hr1.at 5 rfl).1
    have hr2 : RowAt u (w.heap.size + 1 + 1) 0 [.int .i64 0, .int .i64 0, .int .i64 0, .int .i64 0, .int .i64 0, .int .i64 0] := hu.row (by simp)
    have c2_0 := (hr2.at 0 rfl).1
    have c2_1 := (hr2.at 1 rfl).1
    have c2_2 := (hr2.at 2 rfl).1
    have c2_3 := (hr2.at 3 rfl).1
    have c2_4 := (hr2.at 4 rfl).1
    have c2_5 := (hr2.at 5 rfl).1
    have hr3 : RowAt u g5 0 [.int .i64 c0.1, .int .i64 c0.2] := hu.row (by simp)
    have c3_0 := (hr3.at 0 rfl).1
    have c3_1 := (hr3.at 1 rfl).1
    clear hu
    go_simp
  try simp only [Act.put, List.getElem_toArray, List.getElem_cons_zero, List.getElem_cons_succ, List.setIfInBounds_toArray, List.set_cons_zero, List.set_cons_succ]
  refine AnyS.take (i := 7) (v := .pointer (some ⟨w.heap.size + 1, 4, none⟩)) (T := fun _ => True) [] rfl (by kernel_rfl) (by kernel_rfl) (by kernel_rfl) (by kernel_rfl) (by kernel_rfl) (fun _ _ _ h => h) (fun L u q h => trivial) (fun L u h => OneS.less (by decide) h) (Or.inl ⟨by rfl, ?_⟩) (fun _ => k0) ?_
  · intro u hu
    clear hu
    go_simp
  try simp only [Act.put, List.getElem_toArray, List.getElem_cons_zero, List.getElem_cons_succ, List.setIfInBounds_toArray, List.set_cons_zero, List.set_cons_succ]
  refine AnyS.take (i := 8) (v := .agg #[.int .i64 z'.1, .int .i64 z'.2]) (T := RowsK w [(w.heap.size, [.int .i64 x.1, .int .i64 x.2, .int .i64 y.1, .int .i64 y.2, .int .i64 z.1, .int .i64 z.2]), (w.heap.size + 1, [.int .i64 x'.1, .int .i64 x'.2, .int .i64 y'.1, .int .i64 y'.2, .int .i64 z'.1, .int .i64 z'.2]), (w.heap.size + 1 + 1, [.int .i64 0, .int .i64 0, .int .i64 0, .int .i64 0, .int .i64 0, .int .i64 0]), (g5, [.int .i64 c0.1, .int .i64 c0.2])] (fun _ => True)) [12] rfl (by kernel_rfl) (by kernel_rfl) (by kernel_rfl) (by kernel_rfl) (by kernel_rfl) (fun _ _ _ h => h) (fun L u q h => h (q 12 (by simp))) (fun L u h => OneS.less (by decide) h) (Or.inl ⟨by rfl, ?_⟩) (fun _ => k0) ?_
  · intro u hu
    have hr0 : RowAt u w.heap.size 0 [.int .i64 x.1, .int .i64 x.2, .int .i64 y.1, .int .i64 y.2, .int .i64 z.1, .int .i64 z.2] := hu.row (by simp)
    have c0_0 := (hr0.at 0 rfl).1
    have c0_1 := (hr0.at 1 rfl).1
    have c0_2 := (hr0.at 2 rfl).1
    have c0_3 := (hr0.at 3 rfl).1
    have c0_4 := (hr0.at 4 rfl).1
    have c0_5 := (hr0.at 5 rfl).1
    have hr1 : RowAt u (w.heap.size + 1) 0 [.int .i64 x'.1, .int .i64 x'.2, .int .i64 y'.1, .int .i64 y'.2, .int .i64 z'.1, .int .i64 z'.2] := hu.row (by simp)
    have c1_0 := (hr1.at 0 rfl).1
    have c1_1 := (hr1.at 1 rfl).1
    have c1_2 := (hr1.at 2 rfl).1
    have c1_3 := (hr1.at 3 rfl).1
    have c1_4 := (hr1.at 4 rfl).1
    have c1_5 := (hr1.at 5 rfl).1
    have hr2 : RowAt u (w.heap.size + 1 + 1) 0 [.int .i64 0, .int .i64 0, .int .i64 0, .int .i64 0, .int .i64 0, .int .i64 0] := hu.row (by simp)
    have c2_0 := (hr2.at 0 rfl).1
    have c2_1 := (hr2.at 1 rfl).1
    have c2_2 := (hr2.at 2 rfl).1
    have c2_3 := (hr2.at 3 rfl).1
    have c2_4 := (hr2.at 4 rfl).1
    have c2_5 := (hr2.at 5 rfl).1
    have hr3 : RowAt u g5 0 [.int .i64 c0.1, .int .i64 c0.2] := hu.row (by simp)
    have c3_0 := (hr3.at 0 rfl).1
    have c3_1 := (hr3.at 1 rfl).1
    clear hu
    go_simp
  try simp only [Act.put, List.getElem_toArray, List.getElem_cons_zero, List.getElem_cons_succ, List.setIfInBounds_toArray, List.set_cons_zero, List.set_cons_succ]
  refine AnyS.std (n := 1) [(4, 23, .agg #[.int .i64 (mulI z x').1, .int .i64 (mulI z x').2]), (9, 28, .agg #[.int .i64 (mulI x z').1, .int .i64 (mulI x z').2]), (10, 29, .agg #[.int .i64 c1.1, .int .i64 c1.2])] [(11, 6, [.int .i64 0, .int .i64 0], 31)] (RowsK w [(w.heap.size, [.int .i64 x.1, .int .i64 x.2, .int .i64 y.1, .int .i64 y.2, .int .i64 z.1, .int .i64 z.2]), (w.heap.size + 1, [.int .i64 x'.1, .int .i64 x'.2, .int .i64 y'.1, .int .i64 y'.2, .int .i64 z'.1, .int .i64 z'.2]), (w.heap.size + 1 + 1, [.int .i64 0, .int .i64 0, .int .i64 0, .int .i64 0, .int .i64 0, .int .i64 0]), (g5, [.int .i64 c0.1, .int .i64 c0.2])] (fun _ => True)) (wd.heap.size) (fun u u' h hb => h.kept (fun _ _ h _ => h) hb) (by kernel_rfl) (by kernel_rfl) (by kernel_rfl) (by kernel_rfl) (fun u L h _ => h) k0 (Nat.le_refl _) ?_ ?_ ?_
  · intro c hc t u ku lu hp
    simp only [List.mem_cons, List.not_mem_nil, or_false] at hc
    rcases hc with rfl | rfl | rfl
    · clear hp
      simp only [LatC.op, LatC.dst, LatC.val, LatB.op, LatB.dst, LatB.zs, LatB.ty, List.map, List.cons_append, List.nil_append, putA, Act.put, List.setIfInBounds_toArray, List.set_cons_zero, List.set_cons_succ]
      refine wpOp_step rfl (fun K' hK' => ?_)
      have hK := Lib.hid hK'
      clear hK'
      go_simp
      with_reducible refine (sMulI_any z x' _).mono ?_
      rintro _ u1 ⟨rfl, hb1⟩
      go_wp2_with fail
      exact hK.out _ _ ⟨rfl, hb1⟩
    · clear hp
      simp only [LatC.op, LatC.dst, LatC.val, LatB.op, LatB.dst, LatB.zs, LatB.ty, List.map, List.cons_append, List.nil_append, putA, Act.put, List.setIfInBounds_toArray, List.set_cons_zero, List.set_cons_succ]
      refine wpOp_step rfl (fun K' hK' => ?_)
      have hK := Lib.hid hK'
      clear hK'
      go_simp
      with_reducible refine (sMulI_any x z' _).mono ?_
      rintro _ u1 ⟨rfl, hb1⟩
      go_wp2_with fail
      exact hK.out _ _ ⟨rfl, hb1⟩
    · have q23 : t 23 = .agg #[.int .i64 (mulI z x').1, .int .i64 (mulI z x').2] := hp (4, 23, .agg #[.int .i64 (mulI z x').1, .int .i64 (mulI z x').2]) (by simp) (by kernel_rfl)
      have q28 : t 28 = .agg #[.int .i64 (mulI x z').1, .int .i64 (mulI x z').2] := hp (9, 28, .agg #[.int .i64 (mulI x z').1, .int .i64 (mulI x z').2]) (by simp) (by kernel_rfl)
      clear hp
      simp only [LatC.op, LatC.dst, LatC.val, LatB.op, LatB.dst, LatB.zs, LatB.ty, List.map, List.cons_append, List.nil_append, putA, Act.put, List.setIfInBounds_toArray, List.set_cons_zero, List.set_cons_succ]
      simp only [q23]
      simp only [q28]
      refine wpOp_step rfl (fun K' hK' => ?_)
      have hK := Lib.hid hK'
      clear hK'
      go_simp
      with_reducible refine (SC1.out _).mono ?_
      rintro _ u1 ⟨rfl, hb1⟩
      go_wp2_with fail
      exact hK.out _ _ ⟨rfl, hb1⟩
  · intro b hb t u ku
    simp only [List.mem_cons, List.not_mem_nil, or_false] at hb
    rcases hb with rfl
    all_goals (simp only [LatC.op, LatC.dst, LatC.val, LatB.op, LatB.dst, LatB.zs, LatB.ty, List.map, List.cons_append, List.nil_append, putA, Act.put, List.setIfInBounds_toArray, List.set_cons_zero, List.set_cons_succ]; refine wpOp_step rfl (fun K' hK' => ?_); have hK := Lib.hid hK'; clear hK'; go_simp; exact hK.out _ _ ⟨rfl, rfl⟩)
  intro t u g ku lu hcs hbs hne
  have t23 : t 23 = .agg #[.int .i64 (mulI z x').1, .int .i64 (mulI z x').2] := hcs (4, 23, .agg #[.int .i64 (mulI z x').1, .int .i64 (mulI z x').2]) (by simp)
  have t28 : t 28 = .agg #[.int .i64 (mulI x z').1, .int .i64 (mulI x z').2] := hcs (9, 28, .agg #[.int .i64 (mulI x z').1, .int .i64 (mulI x z').2]) (by simp)
  have t29 : t 29 = .agg #[.int .i64 c1.1, .int .i64 c1.2] := hcs (10, 29, .agg #[.int .i64 c1.1, .int .i64 c1.2]) (by simp)
  obtain ⟨t6, lg6, _, hr6⟩ := hbs (11, 6, [.int .i64 0, .int .i64 0], 31) (by simp)
  simp only [LatB.op, LatB.dst] at t6 lg6 hr6
  have b6_0 : Own u (g 11) 0 (.int .i64 0) := hr6 0 _ rfl
  have b6_1 : Own u (g 11) 1 (.int .i64 0) := hr6 1 _ rfl
  clear hr6
  clear hcs hbs hne
  generalize g 11 = g6 at *
  simp only [LatC.op, LatC.dst, LatC.val, LatB.op, LatB.dst, LatB.zs, LatB.ty, List.map, List.cons_append, List.nil_append, setL, if_true, putA, Act.put, List.setIfInBounds_toArray, List.set_cons_zero, List.set_cons_succ, t23, t28, t29, t6]
  clear t23 t28 t29 t6
  have sc0 := b6_0.1
  have sc1 := b6_1.1
  have sf0 := b6_0.2
  have sf1 := b6_1.2
  refine AnyS.one (i := 12) (by kernel_rfl) (AnyS.comes rfl (fun K hK => ?_))
  go_simp
  refine hK.out _ _ (fun h => absurd h (by decide)) ?_
  clear hK K
  try simp only [Act.put, List.getElem_toArray, List.getElem_cons_zero, List.getElem_cons_succ, List.setIfInBounds_toArray, List.set_cons_zero, List.set_cons_succ]
  clear sc0 sf0 sc1 sf1
  obtain ⟨vk10, hv⟩ : ∃ q : World, q = ((u.setCell ⟨g6, 0, none⟩ (.int .i64 c1.1)).setCell ⟨g6, 1, none⟩ (.int .i64 c1.2)) := ⟨_, rfl⟩
  rw [← hv]
  have n6_0 : Own vk10 g6 0 (.int .i64 c1.1) := by rw [hv]; exact (own_next (by decide) (own_put b6_0))
  have n6_1 : Own vk10 g6 1 (.int .i64 c1.2) := by rw [hv]; exact (own_put (own_next (by decide) b6_1))
  have bn : Below w.heap.size w vk10 := by rw [hv]; exact Below.setCell (Below.setCell (ku.2.2) (by dsimp only; omega) _) (by dsimp only; omega) _
  have m0_0 : Own vk10 w.heap.size 0 (.int .i64 x.1) := by rw [hv]; exact (own_far (by dsimp only; omega) (own_far (by dsimp only; omega) ((ku.row (b := w.heap.size) (vs := [.int .i64 x.1, .int .i64 x.2, .int .i64 y.1, .int .i64 y.2, .int .i64 z.1, .int .i64 z.2]) (by simp)).at 0 rfl)))
  have m0_1 : Own vk10 w.heap.size 1 (.int .i64 x.2) := by rw [hv]; exact (own_far (by dsimp only; omega) (own_far (by dsimp only; omega) ((ku.row (b := w.heap.size) (vs := [.int .i64 x.1, .int .i64 x.2, .int .i64 y.1, .int .i64 y.2, .int .i64 z.1, .int .i64 z.2]) (by simp)).at 1 rfl)))
  have m0_2 : Own vk10 w.heap.size 2 (.int .i64 y.1) := by rw [hv]; exact (own_far (by dsimp only; omega) (own_far (by dsimp only; omega) ((ku.row (b := w.heap.size) (vs := [.int .i64 x.1, .int .i64 x.2, .int .i64 y.1, .int .i64 y.2, .int .i64 z.1, .int .i64 z.2]) (by simp)).at 2 rfl)))
  have m0_3 : Own vk10 w.heap.size 3 (.int .i64 y.2) := by rw [hv]; exact (own_far (by dsimp only; omega) (own_far (by dsimp only; omega) ((ku.row (b := w.heap.size) (vs := [.int .i64 x.1, .int .i64 x.2, .int .i64 y.1, .int .i64 y.2, .int .i64 z.1, .int .i64 z.2]) (by simp)).at 3 rfl)))
  have m0_4 : Own vk10 w.heap.size 4 (.int .i64 z.1) := by rw [hv]; exact (own_far (by dsimp only; omega) (own_far (by dsimp only; omega) ((ku.row (b := w.heap.size) (vs := [.int .i64 x.1, .int .i64 x.2, .int .i64 y.1, .int .i64 y.2, .int .i64 z.1, .int .i64 z.2]) (by simp)).at 4 rfl)))
  have m0_5 : Own vk10 w.heap.size 5 (.int .i64 z.2) := by rw [hv]; exact (own_far (by dsimp only; omega) (own_far (by dsimp only; omega) ((ku.row (b := w.heap.size) (vs := [.int .i64 x.1, .int .i64 x.2, .int .i64 y.1, .int .i64 y.2, .int .i64 z.1, .int .i64 z.2]) (by simp)).at 5 rfl)))
  have m1_0 : Own vk10 (w.heap.size + 1) 0 (.int .i64 x'.1) := by rw [hv]; exact (own_far (by dsimp only; omega) (own_far (by dsimp only; omega) ((ku.row (b := w.heap.size + 1) (vs := [.int .i64 x'.1, .int .i64 x'.2, .int .i64 y'.1, .int .i64 y'.2, .int .i64 z'.1, .int .i64 z'.2]) (by simp)).at 0 rfl)))
  have m1_1 : Own vk10 (w.heap.size + 1) 1 (.int .i64 x'.2) := by rw [hv]; exact (own_far (by dsimp only; omega) (own_far (by dsimp only; omega) ((ku.row (b := w.heap.size + 1) (vs := [.int .i64 x'.1, .int .i64 x'.2, .int .i64 y'.1, .int .i64 y'.2, .int .i64 z'.1, .int .i64 z'.2]) (by simp)).at 1 rfl)))
  have m1_2 : Own vk10 (w.heap.size + 1) 2 (.int .i64 y'.1) := by rw [hv]; exact (own_far (by dsimp only; omega) (own_far (by dsimp only; omega) ((ku.row (b := w.heap.size + 1) (vs := [.int .i64 x'.1, .int .i64 x'.2, .int .i64 y'.1, .int .i64 y'.2, .int .i64 z'.1, .int .i64 z'.2]) (by simp)).at 2 rfl)))
  have m1_3 : Own vk10 (w.heap.size + 1) 3 (.int .i64 y'.2) := by rw [hv]; exact (own_far (by dsimp only; omega) (own_far (by dsimp only; omega) ((ku.row (b := w.heap.size + 1) (vs := [.int .i64 x'.1, .int .i64 x'.2, .int .i64 y'.1, .int .i64 y'.2, .int .i64 z'.1, .int .i64 z'.2]) (by simp)).at 3 rfl)))
  have m1_4 : Own vk10 (w.heap.size + 1) 4 (.int .i64 z'.1) := by rw [hv]; exact (own_far (by dsimp only; omega) (own_far (by dsimp only; omega) ((ku.row (b := w.heap.size + 1) (vs := [.int .i64 x'.1, .int .i64 x'.2, .int .i64 y'.1, .int .i64 y'.2, .int .i64 z'.1, .int .i64 z'.2]) (by simp)).at 4 rfl)))
  have m1_5 : Own vk10 (w.heap.size + 1) 5 (.int .i64 z'.2) := by rw [hv]; exact (own_far (by dsimp only; omega) (own_far (by dsimp only; omega) ((ku.row (b := w.heap.size + 1) (vs := [.int .i64 x'.1, .int .i64 x'.2, .int .i64 y'.1, .int .i64 y'.2, .int .i64 z'.1, .int .i64 z'.2]) (by simp)).at 5 rfl)))
  have m2_0 : Own vk10 (w.heap.size + 1 + 1) 0 (.int .i64 0) := by rw [hv]; exact (own_far (by dsimp only; omega) (own_far (by dsimp only; omega) ((ku.row (b := w.heap.size + 1 + 1) (vs := [.int .i64 0, .int .i64 0, .int .i64 0, .int .i64 0, .int .i64 0, .int .i64 0]) (by simp)).at 0 rfl)))
  have m2_1 : Own vk10 (w.heap.size + 1 + 1) 1 (.int .i64 0) := by rw [hv]; exact (own_far (by dsimp only; omega) (own_far (by dsimp only; omega) ((ku.row (b := w.heap.size + 1 + 1) (vs := [.int .i64 0, .int .i64 0, .int .i64 0, .int .i64 0, .int .i64 0, .int .i64 0]) (by simp)).at 1 rfl)))
  have m2_2 : Own vk10 (w.heap.size + 1 + 1) 2 (.int .i64 0) := by rw [hv]; exact (own_far (by dsimp only; omega) (own_far (by dsimp only; omega) ((ku.row (b := w.heap.size + 1 + 1) (vs := [.int .i64 0, .int .i64 0, .int .i64 0, .int .i64 0, .int .i64 0, .int .i64 0]) (by simp)).at 2 rfl)))
  have m2_3 : Own vk10 (w.heap.size + 1 + 1) 3 (.int .i64 0) := by rw [hv]; exact (own_far (by dsimp only; omega) (own_far (by dsimp only; omega) ((ku.row (b := w.heap.size + 1 + 1) (vs := [.int .i64 0, .int .i64 0, .int .i64 0, .int .i64 0, .int .i64 0, .int .i64 0]) (by simp)).at 3 rfl)))
  have m2_4 : Own vk10 (w.heap.size + 1 + 1) 4 (.int .i64 0) := by rw [hv]; exact (own_far (by dsimp only; omega) (own_far (by dsimp only; omega) ((ku.row (b := w.heap.size + 1 + 1) (vs := [.int .i64 0, .int .i64 0, .int .i64 0, .int .i64 0, .int .i64 0, .int .i64 0]) (by simp)).at 4 rfl)))
  have m2_5 : Own vk10 (w.heap.size + 1 + 1) 5 (.int .i64 0) := by rw [hv]; exact (own_far (by dsimp only; omega) (own_far (by dsimp only; omega) ((ku.row (b := w.heap.size + 1 + 1) (vs := [.int .i64 0, .int .i64 0, .int .i64 0, .int .i64 0, .int .i64 0, .int .i64 0]) (by simp)).at 5 rfl)))
  have m3_0 : Own vk10 g5 0 (.int .i64 c0.1) := by rw [hv]; exact (own_far (by dsimp only; omega) (own_far (by dsimp only; omega) ((ku.row (b := g5) (vs := [.int .i64 c0.1, .int .i64 c0.2]) (by simp)).at 0 rfl)))
  have m3_1 : Own vk10 g5 1 (.int .i64 c0.2) := by rw [hv]; exact (own_far (by dsimp only; omega) (own_far (by dsimp only; omega) ((ku.row (b := g5) (vs := [.int .i64 c0.1, .int .i64 c0.2]) (by simp)).at 1 rfl)))
  clear hv b6_0 b6_1 
  have b6_0 := n6_0
  have b6_1 := n6_1
  have bk := bn
  clear bn n6_0 n6_1
  have r0_0 := m0_0
  have r0_1 := m0_1
  have r0_2 := m0_2
  have r0_3 := m0_3
  have r0_4 := m0_4
  have r0_5 := m0_5
  have r1_0 := m1_0
  have r1_1 := m1_1
  have r1_2 := m1_2
  have r1_3 := m1_3
  have r1_4 := m1_4
  have r1_5 := m1_5
  have r2_0 := m2_0
  have r2_1 := m2_1
  have r2_2 := m2_2
  have r2_3 := m2_3
  have r2_4 := m2_4
  have r2_5 := m2_5
  have r3_0 := m3_0
  have r3_1 := m3_1
  clear m0_0 m0_1 m0_2 m0_3 m0_4 m0_5 m1_0 m1_1 m1_2 m1_3 m1_4 m1_5 m2_0 m2_1 m2_2 m2_3 m2_4 m2_5 m3_0 m3_1
  refine AnyS.done (by kernel_rfl) ?_ _
  clear ku lu lg6 lw k0 lt0 lt1 lt2 lt3
  go_upto_region 3 with fail
  refine AnyS.enter (K := RowsK w [(w.heap.size, [.int .i64 x.1, .int .i64 x.2, .int .i64 y.1, .int .i64 y.2, .int .i64 z.1, .int .i64 z.2]), (w.heap.size + 1, [.int .i64 x'.1, .int .i64 x'.2, .int .i64 y'.1, .int .i64 y'.2, .int .i64 z'.1, .int .i64 z'.2]), (w.heap.size + 1 + 1, [.int .i64 0, .int .i64 0, .int .i64 0, .int .i64 0, .int .i64 0, .int .i64 0]), (g5, [.int .i64 c0.1, .int .i64 c0.2]), (g6, [.int .i64 c1.1, .int .i64 c1.2])] (fun _ => True)) (s := 12) (by kernel_rfl) ⟨?_, trivial, belS⟩ ?_
  · intro r hr
    simp only [List.mem_cons, List.not_mem_nil, or_false] at hr
    rcases hr with rfl | rfl | rfl | rfl | rfl
    all_goals (dsimp only; repeat (first | (with_reducible assumption) | (with_reducible exact RowAt.drew (by assumption)) | exact row_nil | refine row_cons (by first | (with_reducible assumption) | (with_reducible exact own_drew (by assumption)) | exact ⟨by simp [go_sem], by simp [go_sem]⟩) ?_))
  intro wd k0
  have lw : w.heap.size ≤ wd.heap.size := k0.2.2.size
  have lt0 : w.heap.size < wd.heap.size := World.block_lt_of_cell? _ _ (((k0.row (b := w.heap.size) (vs := [.int .i64 x.1, .int .i64 x.2, .int .i64 y.1, .int .i64 y.2, .int .i64 z.1, .int .i64 z.2]) (by simp)).at 0 rfl).1)
  have lt1 : w.heap.size + 1 < wd.heap.size := World.block_lt_of_cell? _ _ (((k0.row (b := w.heap.size + 1) (vs := [.int .i64 x'.1, .int .i64 x'.2, .int .i64 y'.1, .int .i64 y'.2, .int .i64 z'.1, .int .i64 z'.2]) (by simp)).at 0 rfl).1)
  have lt2 : w.heap.size + 1 + 1 < wd.heap.size := World.block_lt_of_cell? _ _ (((k0.row (b := w.heap.size + 1 + 1) (vs := [.int .i64 0, .int .i64 0, .int .i64 0, .int .i64 0, .int .i64 0, .int .i64 0]) (by simp)).at 0 rfl).1)
  have lt3 : g5 < wd.heap.size := World.block_lt_of_cell? _ _ (((k0.row (b := g5) (vs := [.int .i64 c0.1, .int .i64 c0.2]) (by simp)).at 0 rfl).1)
  have lt4 : g6 < wd.heap.size := World.block_lt_of_cell? _ _ (((k0.row (b := g6) (vs := [.int .i64 c1.1, .int .i64 c1.2]) (by simp)).at 0 rfl).1)
  refine AnyS.take (i := 0) (v := .pointer (some ⟨w.heap.size, 0, none⟩)) (T := fun _ => True) [] rfl (by kernel_rfl) (by kernel_rfl) (by kernel_rfl) (by kernel_rfl) (by kernel_rfl) (fun _ _ _ h => h) (fun L u q h => trivial) (fun L u h => OneS.less (by decide) h) (Or.inl ⟨by rfl, ?_⟩) (fun _ => k0) ?_
  · intro u hu
    clear hu
    go_simp
  try simp only [Act.put, List.getElem_toArray, List.getElem_cons_zero, List.getElem_cons_succ, List.setIfInBounds_toArray, List.set_cons_zero, List.set_cons_succ]
  refine AnyS.take (i := 1) (v := .agg #[.int .i64 x.1, .int .i64 x.2]) (T := RowsK w [(w.heap.size, [.int .i64 x.1, .int .i64 x.2, .int .i64 y.1, .int .i64 y.2, .int .i64 z.1, .int .i64 z.2]), (w.heap.size + 1, [.int .i64 x'.1, .int .i64 x'.2, .int .i64 y'.1, .int .i64 y'.2, .int .i64 z'.1, .int .i64 z'.2]), (w.heap.size + 1 + 1, [.int .i64 0, .int .i64 0, .int .i64 0, .int .i64 0, .int .i64 0, .int .i64 0]), (g5, [.int .i64 c0.1, .int .i64 c0.2]), (g6, [.int .i64 c1.1, .int .i64 c1.2])] (fun _ => True)) [12] rfl (by kernel_rfl) (by kernel_rfl) (by kernel_rfl) (by kernel_rfl) (by kernel_rfl) (fun _ _ _ h => h) (fun L u q h => h (q 12 (by simp))) (fun L u h => OneS.less (by decide) h) (Or.inl ⟨by rfl, ?_⟩) (fun _ => k0) ?_
  · intro u hu
    have hr0 : RowAt u w.heap.size 0 [.int .i64 x.1, .int .i64 x.2, .int .i64 y.1, .int .i64 y.2, .int .i64 z.1, .int .i64 z.2] := hu.row (by simp)
    have c0_0 := (hr0.at 0 rfl).1
    have c0_1 := (hr0.at 1 rfl).1
    have c0_2 := (hr0.at 2 rfl).1
    have c0_3 := (hr0.at 3 rfl).1
    have c0_4 := (hr0.at 4 rfl).1
    have c0_5 := (hr0.at 5 rfl).1
    have hr1 : RowAt u (w.heap.size + 1) 0 [.int .i64 x'.1, .int .i64 x'.2, .int .i64 y'.1, .int .i64 y'.2, .int .i64 z'.1, .int .i64 z'.2] := hu.row (by simp)
    have c1_0 := (hr1.at 0 rfl).1
    have c1_1 := (hr1.at 1 rfl).1
    have c1_2 := (hr1.at 2 rfl).1
    have c1_3 := (hr1.at 3 rfl).1
    have c1_4 := (hr1.at 4 rfl).1
    have c1_5 := (hr1.at 5 rfl).1
    have hr2 : RowAt u (w.heap.size + 1 + 1) 0 [.int .i64 0, .int .i64 0, .int .i64 0, .int .i64 0, .int .i64 0, .int .i64 0] := hu.row (by simp)
    have c2_0 := (hr2.at 0 rfl).1
    have c2_1 := (hr2.at 1 rfl).1
    have c2_2 := (hr2.at 2 rfl).1
    have c2_3 := (hr2.at 3 rfl).1
    have c2_4 := (hr2.at 4 rfl).1
    have c2_5 := (hr2.at 5 rfl).1
    have hr3 : RowAt u g5 0 [.int .i64 c0.1, .int .i64 c0.2] := hu.row (by simp)
    have c3_0 := (hr3.at 0 rfl).1
    have c3_1 := (hr3.at 1 rfl).1
    have hr4 : RowAt u g6 0 [.int .i64 c1.1, .int .i64 c1.2] := hu.row (by simp)
    have c4_0 := (hr4.at 0 rfl).1
    have c4_1 := (hr4.at 1 rfl).1
    clear hu
    go_simp
  try simp only [Act.put, List.getElem_toArray, List.getElem_cons_zero, List.getElem_cons_succ, List.setIfInBounds_toArray, List.set_cons_zero, List.set_cons_succ]
  refine AnyS.take (i := 2) (v := .pointer (some ⟨w.heap.size + 1, 2, none⟩)) (T := fun _ => True) [] rfl (by kernel_rfl) (by kernel_rfl) (by kernel_rfl) (by kernel_rfl) (by kernel_rfl) (fun _ _ _ h => h) (fun L u q h => trivial) (fun L u h => OneS.less (by decide) h) (Or.inl ⟨by rfl, ?_⟩) (fun _ => k0) ?_
  · intro u hu
    clear hu
    go_simp
  try simp only [Act.put, List.getElem_toArray, List.getElem_cons_zero, List.getElem_cons_succ, List.setIfInBounds_toArray, List.set_cons_zero, List.set_cons_succ]
  refine AnyS.take (i := 3) (v := .agg #[.int .i64 y'.1, .int .i64 y'.2]) (T := RowsK w [(w.heap.size, [.int .i64 x.1, .int .i64 x.2, .int .i64 y.1, .int .i64 y.2, .int .i64 z.1, .int .i64 z.2]), (w.heap.size + 1, [.int .i64 x'.1, .int .i64 x'.2, .int .i64 y'.1, .int .i64 y'.2, .int .i64 z'.1, .int .i64 z'.2]), (w.heap.size + 1 + 1, [.int .i64 0, .int .i64 0, .int .i64 0, .int .i64 0, .int .i64 0, .int .i64 0]), (g5, [.int .i64 c0.1, .int .i64 c0.2]), (g6, [.int .i64 c1.1, .int .i64 c1.2])] (fun _ => True)) [12] rfl (by kernel_rfl) (by kernel_rfl) (by kernel_rfl) (by kernel_rfl) (by kernel_rfl) (fun _ _ _ h => h) (fun L u q h => h (q 12 (by simp))) (fun L u h => OneS.less (by decide) h) (Or.inl ⟨by rfl, ?_⟩) (fun _ => k0) ?_
  · intro u hu
    have hr0 : RowAt u w.heap.size 0 [.int .i64 x.1, .int .i64 x.2, .int .i64 y.1, .int .i64 y.2, .int .i64 z.1, .int .i64 z.2] := hu.row (by simp)
    have c0_0 := (hr0.at 0 rfl).1
    have c0_1 := (hr0.at 1 rfl).1
    have c0_2 := (hr0.at 2 rfl).1
    have c0_3 := (hr0.at 3 rfl).1
    have c0_4 := (hr0.at 4 rfl).1
    have c0_5 := (hr0.at 5 rfl).1
    have hr1 : RowAt u (w.heap.size + 1) 0 [.int .i64 x'.1, .int .i64 x'.2, .int .i64 y'.1, .int .i64 y'.2, .int .i64 z'.1, .int .i64 z'.2] := hu.row (by simp)
    have c1_0 := (hr1.at 0 rfl).1
    have c1_1 := (hr1.at 1 rfl).1
    have c1_2 := (hr1.at 2 rfl).1
    have c1_3 := (hr1.at 3 rfl).1
    have c1_4 := (hr1.at 4 rfl).1
    have c1_5 := (hr1.at 5 rfl).1
    have hr2 : RowAt u (w.heap.size + 1 + 1) 0 [.int .i64 0, .int .i64 0, .int .i64 0, .int .i64 0, .int .i64 0, .int .i64 0] := hu.row (by simp)
    have c2_0 := (hr2.at 0 rfl).1
    have c2_1 := (hr2.at 1 rfl).1
    have c2_2 := (hr2.at 2 rfl).1
    have c2_3 := (hr2.at 3 rfl).1
    have c2_4 := (hr2.at 4 rfl).1
    have c2_5 := (hr2.at 5 rfl).1
    have hr3 : RowAt u g5 0 [.int .i64 c0.1, .int .i64 c0.2] := hu.row (by simp)
    have c3_0 := (hr3.at 0 rfl).1
    have c3_1 := (hr3.at 1 rfl).1
    have hr4 : RowAt u g6 0 [.int .i64 c1.1, .int .i64 c1.2] := hu.row (by simp)
    have c4_0 := (hr4.at 0 rfl).1
    have c4_1 := (hr4.at 1 rfl).1
    clear hu
    go_simp
  try simp only [Act.put, List.getElem_toArray, List.getElem_cons_zero, List.getElem_cons_succ, List.setIfInBounds_toArray, List.set_cons_zero, List.set_cons_succ]
  refine AnyS.take (i := 5) (v := .pointer (some ⟨w.heap.size, 2, none⟩)) (T := fun _ => True) [] rfl (by kernel_rfl) (by kernel_rfl) (by kernel_rfl) (by kernel_rfl) (by kernel_rfl) (fun _ _ _ h => h) (fun L u q h => trivial) (fun L u h => OneS.less (by decide) h) (Or.inl ⟨by rfl, ?_⟩) (fun _ => k0) ?_
  · intro u hu
    clear hu
    go_simp
  try simp only [Act.put, List.getElem_toArray, List.getElem_cons_zero, List.getElem_cons_succ, List.setIfInBounds_toArray, List.set_cons_zero, List.set_cons_succ]
  refine AnyS.take (i := 6) (v := .agg #[.int .i64 y.1, .int .i64 y.2]) (T := RowsK w [(w.heap.size, [.int .i64 x.1, .int .i64 x.2, .int .i64 y.1, .int .i64 y.2, .int .i64 z.1, .int .i64 z.2]), (w.heap.size + 1, [.int .i64 x'.1, .int .i64 x'.2, .int .i64 y'.1, .int .i64 y'.2, .int .i64 z'.1, .int .i64 z'.2]), (w.heap.size + 1 + 1, [.int .i64 0, .int .i64 0, .int .i64 0, .int .i64 0, .int .i64 0, .int .i64 0]), (g5, [.int .i64 c0.1, .int .i64 c0.2]), (g6, [.int .i64 c1.1, .int .i64 c1.2])] (fun _ => True)) [12] rfl (by kernel_rfl) (by kernel_rfl) (by kernel_rfl) (by kernel_rfl) (by kernel_rfl) (fun _ _ _ h => h) (fun L u q h => h (q 12 (by simp))) (fun L u h => OneS.less (by decide) h) (Or.inl ⟨by rfl, ?_⟩) (fun _ => k0) ?_
  · intro u hu
    have hr0 : RowAt u w.heap.size 0 [.int .i64 x.1, .int .i64 x.2, .int .i64 y.1, .int .i64 y.2, .int .i64 z.1, .int .i64 z.2] := hu.row (by simp)
    have c0_0 := (hr0.at 0 rfl).1
    have c0_1 := (hr0.at 1 rfl).1
    have c0_2 := (hr0.at 2 rfl).1
    have c0_3 := (hr0.at 3 rfl).1
    have c0_4 := (hr0.at 4 rfl).1
    have c0_5 := (hr0.at 5 rfl).1
    have hr1 : RowAt u (w.heap.size + 1) 0 [.int .i64 x'.1, .int .i64 x'.2, .int .i64 y'.1, .int .i64 y'.2, .int .i64 z'.1, .int .i64 z'.2] := hu.row (by simp)
    have c1_0 := (hr1.at 0 rfl).1
    have c1_1 := (hr1.at 1 rfl).1
    have c1_2 := (hr1.at 2 rfl).1
    have c1_3 := (hr1.at 3 rfl).1
    have c1_4 := (hr1.at 4 rfl).1
    have c1_5 := (hr1.at 5 rfl).1
    have hr2 : RowAt u (w.heap.size + 1 + 1) 0 [.int .i64 0, .int .i64 0, .int .i64 0, .int .i64 0, .int .i64 0, .int .i64 0] := hu.row (by simp)
    have c2_0 := (hr2.at 0 rfl).1
    have c2_1 := (hr2.at 1 rfl).1
    have c2_2 := (hr2.at 2 rfl).1
    have c2_3 := (hr2.at 3 rfl).1
    have c2_4 := (hr2.at 4 rfl).1
    have c2_5 := (hr2.at 5 rfl).1
    have hr3 : RowAt u g5 0 [.int .i64 c0.1, .int .i64 c0.2] := hu.row (by simp)
    have c3_0 := (hr3.at 0 rfl).1
    have c3_1 := (hr3.at 1 rfl).1
    have hr4 : RowAt u g6 0 [.int .i64 c1.1, .int .i64 c1.2] := hu.row (by simp)
    have c4_0 := (hr4.at 0 rfl).1
    have c4_1 := (hr4.at 1 rfl).1
    clear hu
    go_simp
  try simp only [Act.put, List.getElem_toArray, List.getElem_cons_zero, List.getElem_cons_succ, List.setIfInBounds_toArray, List.set_cons_zero, List.set_cons_succ]
  refine AnyS.take (i := 7) (v := .pointer (some ⟨w.heap.size + 1, 0, none⟩)) (T := fun _ => True) [] rfl (by kernel_rfl) (by kernel_rfl) (by kernel_rfl) (by kernel_rfl) (by kernel_rfl) (fun _ _ _ h => h) (fun L u q h => trivial) (fun L u h => OneS.less (by decide) h) (Or.inl ⟨by rfl, ?_⟩) (fun _ => k0) ?_
  · intro u hu
    clear hu
    go_simp
  try simp only [Act.put, List.getElem_toArray, List.getElem_cons_zero, List.getElem_cons_succ, List.setIfInBounds_toArray, List.set_cons_zero, List.set_cons_succ]
  refine AnyS.take (i := 8) (v := .agg #[.int .i64 x'.1, .int .i64 x'.2]) (T := RowsK w [(w.heap.size, [.int .i64 x.1, .int .i64 x.2, .int .i64 y.1, .int .i64 y.2, .int .i64 z.1, .int .i64 z.2]), (w.heap.size + 1, [.int .i64 x'.1, .int .i64 x'.2, .int .i64 y'.1, .int .i64 y'.2, .int .i64 z'.1, .int .i64 z'.2]), (w.heap.size + 1 + 1, [.int .i64 0, .int .i64 0, .int .i64 0, .int .i64 0, .int .i64 0, .int .i64 0]), (g5, [.int .i64 c0.1, .int .i64 c0.2]), (g6, [.int .i64 c1.1, .int .i64 c1.2])] (fun _ => True)) [12] rfl (by kernel_rfl) (by kernel_rfl) (by kernel_rfl) (by kernel_rfl) (by kernel_rfl) (fun _ _ _ h => h) (fun L u q h => h (q 12 (by simp))) (fun L u h => OneS.less (by decide) h) (Or.inl ⟨by rfl, ?_⟩) (fun _ => k0) ?_
  · intro u hu
    have hr0 : RowAt u w.heap.size 0 [.int .i64 x.1, .int .i64 x.2, .int .i64 y.1, .int .i64 y.2, .int .i64 z.1, .int .i64 z.2] := hu.row (by simp)
    have c0_0 := (hr0.at 0 rfl).1
    have c0_1 := (hr0.at 1 rfl).1
    have c0_2 := (hr0.at 2 rfl).1
    have c0_3 := (hr0.at 3 rfl).1
    have c0_4 := (hr0.at 4 rfl).1
    have c0_5 := (hr0.at 5 rfl).1
    have hr1 : RowAt u (w.heap.size + 1) 0 [.int .i64 x'.1, .int .i64 x'.2, .int .i64 y'.1, .int .i64 y'.2, .int .i64 z'.1, .int .i64 z'.2] := hu.row (by simp)
    have c1_0 := (hr1.at 0 rfl).1
    have c1_1 := (hr1.at 1 rfl).1
    have c1_2 := (hr1.at 2 rfl).1
    have c1_3 := (hr1.at 3 rfl).1
    have c1_4 := (hr1.at 4 rfl).1
    have c1_5 := (hr1.at 5 rfl).1
    have hr2 : RowAt u (w.heap.size + 1 + 1) 0 [.int .i64 0, .int .i64 0, .int .i64 0, .int .i64 0, .int .i64 0, .int .i64 0] := hu.row (by simp)
    have c2_0 := (hr2.at 0 rfl).1
    have c2_1 := (hr2.at 1 rfl).1
    have c2_2 := (hr2.at 2 rfl).1
    have c2_3 := (hr2.at 3 rfl).1
    have c2_4 := (hr2.at 4 rfl).1
    have c2_5 := (hr2.at 5 rfl).1
    have hr3 : RowAt u g5 0 [.int .i64 c0.1, .int .i64 c0.2] := hu.row (by simp)
    have c3_0 := (hr3.at 0 rfl).1
    have c3_1 := (hr3.at 1 rfl).1
    have hr4 : RowAt u g6 0 [.int .i64 c1.1, .int .i64 c1.2] := hu.row (by simp)
    have c4_0 := (hr4.at 0 rfl).1
    have c4_1 := (hr4.at 1 rfl).1
    clear hu
    go_simp
  try simp only [Act.put, List.getElem_toArray, List.getElem_cons_zero, List.getElem_cons_succ, List.setIfInBounds_toArray, List.set_cons_zero, List.set_cons_succ]
  refine AnyS.std (n := 1) [(4, 34, .agg #[.int .i64 (mulI x y').1, .int .i64 (mulI x y').2]), (9, 39, .agg #[.int .i64 (mulI y x').1, .int .i64 (mulI y x').2]), (10, 40, .agg #[.int .i64 c2.1, .int .i64 c2.2])] [(11, 7, [.int .i64 0, .int .i64 0], 31)] (RowsK w [(w.heap.size, [.int .i64 x.1, .int .i64 x.2, .int .i64 y.1, .int .i64 y.2, .int .i64 z.1, .int .i64 z.2]), (w.heap.size + 1, [.int .i64 x'.1, .int .i64 x'.2, .int .i64 y'.1, .int .i64 y'.2, .int .i64 z'.1, .int .i64 z'.2]), (w.heap.size + 1 + 1, [.int .i64 0, .int .i64 0, .int .i64 0, .int .i64 0, .int .i64 0, .int .i64 0]), (g5, [.int .i64 c0.1, .int .i64 c0.2]), (g6, [.int .i64 c1.1, .int .i64 c1.2])] (fun _ => True)) (wd.heap.size) (fun u u' h hb => h.kept (fun _ _ h _ => h) hb) (by kernel_rfl) (by kernel_rfl) (by kernel_rfl) (by kernel_rfl) (fun u L h _ => h) k0 (Nat.le_refl _) ?_ ?_ ?_
  · intro c hc t u ku lu hp
    simp only [List.mem_cons, List.not_mem_nil, or_false] at hc
    rcases hc with rfl | rfl | rfl
    · clear hp
      simp only [LatC.op, LatC.dst, LatC.val, LatB.op, LatB.dst, LatB.zs, LatB.ty, List.map, List.cons_append, List.nil_append, putA, Act.put, List.setIfInBounds_toArray, List.set_cons_zero, List.set_cons_succ]
      refine wpOp_step rfl (fun K' hK' => ?_)
      have hK := Lib.hid hK'
      clear hK'
      go_simp
      with_reducible refine (sMulI_any x y' _).mono ?_
      rintro _ u1 ⟨rfl, hb1⟩
      go_wp2_with fail
      exact hK.out _ _ ⟨rfl, hb1⟩
    · clear hp
      simp only [LatC.op, LatC.dst, LatC.val, LatB.op, LatB.dst, LatB.zs, LatB.ty, List.map, List.cons_append, List.nil_append, putA, Act.put, List.setIfInBounds_toArray, List.set_cons_zero, List.set_cons_succ]
      refine wpOp_step rfl (fun K' hK' => ?_)
      have hK := Lib.hid hK'
      clear hK'
      go_simp
      with_reducible refine (sMulI_any y x' _).mono ?_
      rintro _ u1 ⟨rfl, hb1⟩
      go_wp2_with fail
      exact hK.out _ _ ⟨rfl, hb1⟩
    · have q34 : t 34 = .agg #[.int .i64 (mulI x y').1, .int .i64 (mulI x y').2] := hp (4, 34, .agg #[.int .i64 (mulI x y').1, .int .i64 (mulI x y').2]) (by simp) (by kernel_rfl)
      have q39 : t 39 = .agg #[.int .i64 (mulI y x').1, .int .i64 (mulI y x').2] := hp (9, 39, .agg #[.int .i64 (mulI y x').1, .int .i64 (mulI y x').2]) (by simp) (by kernel_rfl)
      clear hp
      simp only [LatC.op, LatC.dst, LatC.val, LatB.op, LatB.dst, LatB.zs, LatB.ty, List.map, List.cons_append, List.nil_append, putA, Act.put, List.setIfInBounds_toArray, List.set_cons_zero, List.set_cons_succ]
      simp only [q34]
      simp only [q39]
      refine wpOp_step rfl (fun K' hK' => ?_)
      have hK := Lib.hid hK'
      clear hK'
      go_simp
      with_reducible refine (SC2.out _).mono ?_
      rintro _ u1 ⟨rfl, hb1⟩
      go_wp2_with fail
      exact hK.out _ _ ⟨rfl, hb1⟩
  · intro b hb t u ku
    simp only [List.mem_cons, List.not_mem_nil, or_false] at hb
    rcases hb with rfl
    all_goals (simp only [LatC.op, LatC.dst, LatC.val, LatB.op, LatB.dst, LatB.zs, LatB.ty, List.map, List.cons_append, List.nil_append, putA, Act.put, List.setIfInBounds_toArray, List.set_cons_zero, List.set_cons_succ]; refine wpOp_step rfl (fun K' hK' => ?_); have hK := Lib.hid hK'; clear hK'; go_simp; exact hK.out _ _ ⟨rfl, rfl⟩)
  intro t u g ku lu hcs hbs hne
  have t34 : t 34 = .agg #[.int .i64 (mulI x y').1, .int .i64 (mulI x y').2] := hcs (4, 34, .agg #[.int .i64 (mulI x y').1, .int .i64 (mulI x y').2]) (by simp)
  have t39 : t 39 = .agg #[.int .i64 (mulI y x').1, .int .i64 (mulI y x').2] := hcs (9, 39, .agg #[.int .i64 (mulI y x').1, .int .i64 (mulI y x').2]) (by simp)
  have t40 : t 40 = .agg #[.int .i64 c2.1, .int .i64 c2.2] := hcs (10, 40, .agg #[.int .i64 c2.1, .int .i64 c2.2]) (by simp)
  obtain ⟨t7, lg7, _, hr7⟩ := hbs (11, 7, [.int .i64 0, .int .i64 0], 31) (by simp)
  simp only [LatB.op, LatB.dst] at t7 lg7 hr7
  have b7_0 : Own u (g 11) 0 (.int .i64 0) := hr7 0 _ rfl
  have b7_1 : Own u (g 11) 1 (.int .i64 0) := hr7 1 _ rfl
  clear hr7
  clear hcs hbs hne
  generalize g 11 = g7 at *
  simp only [LatC.op, LatC.dst, LatC.val, LatB.op, LatB.dst, LatB.zs, LatB.ty, List.map, List.cons_append, List.nil_append, setL, if_true, putA, Act.put, List.setIfInBounds_toArray, List.set_cons_zero, List.set_cons_succ, t34, t39, t40, t7]
  clear t34 t39 t40 t7
  have sc0 := b7_0.1
  have sc1 := b7_1.1
  have sf0 := b7_0.2
  have sf1 := b7_1.2
  refine AnyS.one (i := 12) (by kernel_rfl) (AnyS.comes rfl (fun K hK => ?_))
  go_simp
  refine hK.out _ _ (fun h => absurd h (by decide)) ?_
  clear hK K
  try simp only [Act.put, List.getElem_toArray, List.getElem_cons_zero, List.getElem_cons_succ, List.setIfInBounds_toArray, List.set_cons_zero, List.set_cons_succ]
  clear sc0 sf0 sc1 sf1
  obtain ⟨vk20, hv⟩ : ∃ q : World, q = ((u.setCell ⟨g7, 0, none⟩ (.int .i64 c2.1)).setCell ⟨g7, 1, none⟩ (.int .i64 c2.2)) := ⟨_, rfl⟩
  rw [← hv]
  have n7_0 : Own vk20 g7 0 (.int .i64 c2.1) := by rw [hv]; exact (own_next (by decide) (own_put b7_0))
  have n7_1 : Own vk20 g7 1 (.int .i64 c2.2) := by rw [hv]; exact (own_put (own_next (by decide) b7_1))
  have bn : Below w.heap.size w vk20 := by rw [hv]; exact Below.setCell (Below.setCell (ku.2.2) (by dsimp only; omega) _) (by dsimp only; omega) _
  have m0_0 : Own vk20 w.heap.size 0 (.int .i64 x.1) := by rw [hv]; exact (own_far (by dsimp only; omega) (own_far (by dsimp only; omega) ((ku.row (b := w.heap.size) (vs := [.int .i64 x.1, .int .i64 x.2, .int .i64 y.1, .int .i64 y.2, .int .i64 z.1, .int .i64 z.2]) (by simp)).at 0 rfl)))
  have m0_1 : Own vk20 w.heap.size 1 (.int .i64 x.2) := by rw [hv]; exact (own_far (by dsimp only; omega) (own_far (by dsimp only; omega) ((ku.row (b := w.heap.size) (vs := [.int .i64 x.1, .int .i64 x.2, .int .i64 y.1, .int .i64 y.2, .int .i64 z.1, .int .i64 z.2]) (by simp)).at 1 rfl)))
  have m0_2 : Own vk20 w.heap.size 2 (.int .i64 y.1) := by rw [hv]; exact (own_far (by dsimp only; omega) (own_far (by dsimp only; omega) ((ku.row (b := w.heap.size) (vs := [.int .i64 x.1, .int .i64 x.2, .int .i64 y.1, .int .i64 y.2, .int .i64 z.1, .int .i64 z.2]) (by simp)).at 2 rfl)))
  have m0_3 : Own vk20 w.heap.size 3 (.int .i64 y.2) := by rw [hv]; exact (own_far (by dsimp only; omega) (own_far (by dsimp only; omega) ((ku.row (b := w.heap.size) (vs := [.int .i64 x.1, .int .i64 x.2, .int .i64 y.1, .int .i64 y.2, .int .i64 z.1, .int .i64 z.2]) (by simp)).at 3 rfl)))
  have m0_4 : Own vk20 w.heap.size 4 (.int .i64 z.1) := by rw [hv]; exact (own_far (by dsimp only; omega) (own_far (by dsimp only; omega) ((ku.row (b := w.heap.size) (vs := [.int .i64 x.1, .int .i64 x.2, .int .i64 y.1, .int .i64 y.2, .int .i64 z.1, .int .i64 z.2]) (by simp)).at 4 rfl)))
  have m0_5 : Own vk20 w.heap.size 5 (.int .i64 z.2) := by rw [hv]; exact (own_far (by dsimp only; omega) (own_far (by dsimp only; omega) ((ku.row (b := w.heap.size) (vs := [.int .i64 x.1, .int .i64 x.2, .int .i64 y.1, .int .i64 y.2, .int .i64 z.1, .int .i64 z.2]) (by simp)).at 5 rfl)))
  have m1_0 : Own vk20 (w.heap.size + 1) 0 (.int .i64 x'.1) := by rw [hv]; exact (own_far (by dsimp only; omega) (own_far (by dsimp only; omega) ((ku.row (b := w.heap.size + 1) (vs := [.int .i64 x'.1, .int .i64 x'.2, .int .i64 y'.1, .int .i64 y'.2, .int .i64 z'.1, .int .i64 z'.2]) (by simp)).at 0 rfl)))
  have m1_1 : Own vk20 (w.heap.size + 1) 1 (.int .i64 x'.2) := by rw [hv]; exact (own_far (by dsimp only; omega) (own_far (by dsimp only; omega) ((ku.row (b := w.heap.size + 1) (vs := [.int .i64 x'.1, .int .i64 x'.2, .int .i64 y'.1, .int .i64 y'.2, .int .i64 z'.1, .int .i64 z'.2]) (by simp)).at 1 rfl)))
  have m1_2 : Own vk20 (w.heap.size + 1) 2 (.int .i64 y'.1) := by rw [hv]; exact (own_far (by dsimp only; omega) (own_far (by dsimp only; omega) ((ku.row (b := w.heap.size + 1) (vs := [.int .i64 x'.1, .int .i64 x'.2, .int .i64 y'.1, .int .i64 y'.2, .int .i64 z'.1, .int .i64 z'.2]) (by simp)).at 2 rfl)))
  have m1_3 : Own vk20 (w.heap.size + 1) 3 (.int .i64 y'.2) := by rw [hv]; exact (own_far (by dsimp only; omega) (own_far (by dsimp only; omega) ((ku.row (b := w.heap.size + 1) (vs := [.int .i64 x'.1, .int .i64 x'.2, .int .i64 y'.1, .int .i64 y'.2, .int .i64 z'.1, .int .i64 z'.2]) (by simp)).at 3 rfl)))
  have m1_4 : Own vk20 (w.heap.size + 1) 4 (.int .i64 z'.1) := by rw [hv]; exact (own_far (by dsimp only; omega) (own_far (by dsimp only; omega) ((ku.row (b := w.heap.size + 1) (vs := [.int .i64 x'.1, .int .i64 x'.2, .int .i64 y'.1, .int .i64 y'.2, .int .i64 z'.1, .int .i64 z'.2]) (by simp)).at 4 rfl)))
  have m1_5 : Own vk20 (w.heap.size + 1) 5 (.int .i64 z'.2) := by rw [hv]; exact (own_far (by dsimp only; omega) (own_far (by dsimp only; omega) ((ku.row (b := w.heap.size + 1) (vs := [.int .i64 x'.1, .int .i64 x'.2, .int .i64 y'.1, .int .i64 y'.2, .int .i64 z'.1, .int .i64 z'.2]) (by simp)).at 5 rfl)))
  have m2_0 : Own vk20 (w.heap.size + 1 + 1) 0 (.int .i64 0) := by rw [hv]; exact (own_far (by dsimp only; omega) (own_far (by dsimp only; omega) ((ku.row (b := w.heap.size + 1 + 1) (vs := [.int .i64 0, .int .i64 0, .int .i64 0, .int .i64 0, .int .i64 0, .int .i64 0]) (by simp)).at 0 rfl)))
  have m2_1 : Own vk20 (w.heap.size + 1 + 1) 1 (.int .i64 0) := by rw [hv]; exact (own_far (by dsimp only; omega) (own_far (by dsimp only; omega) ((ku.row (b := w.heap.size + 1 + 1) (vs := [.int .i64 0, .int .i64 0, .int .i64 0, .int .i64 0, .int .i64 0, .int .i64 0]) (by simp)).at 1 rfl)))
  have m2_2 : Own vk20 (w.heap.size + 1 + 1) 2 (.int .i64 0) := by rw [hv]; exact (own_far (by dsimp only; omega) (own_far (by dsimp only; omega) ((ku.row (b := w.heap.size + 1 + 1) (vs := [.int .i64 0, .int .i64 0, .int .i64 0, .int .i64 0, .int .i64 0, .int .i64 0]) (by simp)).at 2 rfl)))
  have m2_3 : Own vk20 (w.heap.size + 1 + 1) 3 (.int .i64 0) := by rw [hv]; exact (own_far (by dsimp only; omega) (own_far (by dsimp only; omega) ((ku.row (b := w.heap.size + 1 + 1) (vs := [.int .i64 0, .int .i64 0, .int .i64 0, .int .i64 0, .int .i64 0, .int .i64 0]) (by simp)).at 3 rfl)))
  have m2_4 : Own vk20 (w.heap.size + 1 + 1) 4 (.int .i64 0) := by rw [hv]; exact (own_far (by dsimp only; omega) (own_far (by dsimp only; omega) ((ku.row (b := w.heap.size + 1 + 1) (vs := [.int .i64 0, .int .i64 0, .int .i64 0, .int .i64 0, .int .i64 0, .int .i64 0]) (by simp)).at 4 rfl)))
  have m2_5 : Own vk20 (w.heap.size + 1 + 1) 5 (.int .i64 0) := by rw [hv]; exact (own_far (by dsimp only; omega) (own_far (by dsimp only; omega) ((ku.row (b := w.heap.size + 1 + 1) (vs := [.int .i64 0, .int .i64 0, .int .i64 0, .int .i64 0, .int .i64 0, .int .i64 0]) (by simp)).at 5 rfl)))
  have m3_0 : Own vk20 g5 0 (.int .i64 c0.1) := by rw [hv]; exact (own_far (by dsimp only; omega) (own_far (by dsimp only; omega) ((ku.row (b := g5) (vs := [.int .i64 c0.1, .int .i64 c0.2]) (by simp)).at 0 rfl)))
  have m3_1 : Own vk20 g5 1 (.int .i64 c0.2) := by rw [hv]; exact (own_far (by dsimp only; omega) (own_far (by dsimp only; omega) ((ku.row (b := g5) (vs := [.int .i64 c0.1, .int .i64 c0.2]) (by simp)).at 1 rfl)))
  have m4_0 : Own vk20 g6 0 (.int .i64 c1.1) := by rw [hv]; exact (own_far (by dsimp only; omega) (own_far (by dsimp only; omega) ((ku.row (b := g6) (vs := [.int .i64 c1.1, .int .i64 c1.2]) (by simp)).at 0 rfl)))
  have m4_1 : Own vk20 g6 1 (.int .i64 c1.2) := by rw [hv]; exact (own_far (by dsimp only; omega) (own_far (by dsimp only; omega) ((ku.row (b := g6) (vs := [.int .i64 c1.1, .int .i64 c1.2]) (by simp)).at 1 rfl)))
  clear hv b7_0 b7_1 
  have b7_0 := n7_0
  have b7_1 := n7_1
  have bk := bn
  clear bn n7_0 n7_1
  have r0_0 := m0_0
  have r0_1 := m0_1
  have r0_2 := m0_2
  have r0_3 := m0_3
  have r0_4 := m0_4
  have r0_5 := m0_5
  have r1_0 := m1_0
  have r1_1 := m1_1
  have r1_2 := m1_2
  have r1_3 := m1_3
  have r1_4 := m1_4
  have r1_5 := m1_5
  have r2_0 := m2_0
  have r2_1 := m2_1
  have r2_2 := m2_2
  have r2_3 := m2_3
  have r2_4 := m2_4
  have r2_5 := m2_5
  have r3_0 := m3_0
  have r3_1 := m3_1
  have r4_0 := m4_0
  have r4_1 := m4_1
  clear m0_0 m0_1 m0_2 m0_3 m0_4 m0_5 m1_0 m1_1 m1_2 m1_3 m1_4 m1_5 m2_0 m2_1 m2_2 m2_3 m2_4 m2_5 m3_0 m3_1 m4_0 m4_1
  refine AnyS.done (by kernel_rfl) ?_ _
  clear ku lu lg7 lw k0 lt0 lt1 lt2 lt3 lt4
  have y0_0 := r3_0.1
  have y0_1 := r3_1.1
  have y1_0 := r4_0.1
  have y1_1 := r4_1.1
  have y2_0 := b7_0.1
  have y2_1 := b7_1.1
  have z0 := r2_0.1
  have z1 := r2_1.1
  have z2 := r2_2.1
  have z3 := r2_3.1
  have z4 := r2_4.1
  have z5 := r2_5.1
  have f0 := r2_0.2
  have f1 := r2_1.2
  have f2 := r2_2.2
  have f3 := r2_3.2
  have f4 := r2_4.2
  have f5 := r2_5.2
  go_wp2
  exact bodyPost_ret (v := .agg #[.int .i64 c0.1, .int .i64 c0.2, .int .i64 c1.1, .int .i64 c1.2, .int .i64 c2.1, .int .i64 c2.2]) (by simp [results, Try.results65, go_sem, z0, z1, z2, z3, z4, z5]) rfl ⟨rfl, belS⟩
end Go.Proofs.Ytmikjgbojknlnaa
