/- The law of vector products. Conditions: numbers are int64. -/
import Derived.Test.YtmikjgbojknlnaaVeK
import Derived.Test.YtmikjgbojknlnaaVeF
import Derived.Test.YtmikjgbojknlnaaVeN
import Derived.Test.YtmikjgbojknlnaaLat
import Derived.Deep.RegionHeld3
import Derived.Deep.DeepCutAuto
import Derived.Outline
namespace Go.Proofs.Ytmikjgbojknlnaa
open Go.ChangeShapes Go.WideShapes Go.ChangeAt Go.RowKit
set_option linter.unusedVariables false
set_option maxRecDepth 100000
set_option linter.unusedSimpArgs false
set_option maxHeartbeats 1000000
set_option maxHeartbeats 16000000 in
theorem law_CrossV (x y z x' y' z' : Iv) (ox : Ok x) (oy : Ok y) (oz : Ok z) (ox' : Ok x') (oy' : Ok y') (oz' : Ok z') (w : World) : Calls Try.prog 17 #[.agg #[.int .i64 x.1, .int .i64 x.2, .int .i64 y.1, .int .i64 y.2, .int .i64 z.1, .int .i64 z.2], .agg #[.int .i64 x'.1, .int .i64 x'.2, .int .i64 y'.1, .int .i64 y'.2, .int .i64 z'.1, .int .i64 z'.2]] w fun e w' =>
    e = .returned (.bool true) ∧ Below w.heap.size w w' := by
  go_enter Try.func17, Try.ntmps17
  go_upto_region 1 with fail
  refine AnyS.enter (K := RowsK w [(w.heap.size, [.int .i64 x.1, .int .i64 x.2, .int .i64 y.1, .int .i64 y.2, .int .i64 z.1, .int .i64 z.2]), (w.heap.size + 1, [.int .i64 x'.1, .int .i64 x'.2, .int .i64 y'.1, .int .i64 y'.2, .int .i64 z'.1, .int .i64 z'.2])] (fun _ => True)) (s := 6) (by kernel_rfl) ⟨?_, trivial, belS⟩ ?_
  · intro r hr
    simp only [List.mem_cons, List.not_mem_nil, or_false] at hr
    rcases hr with rfl | rfl
    all_goals (dsimp only; repeat (first | (with_reducible assumption) | (with_reducible exact RowAt.drew (by assumption)) | exact row_nil | refine row_cons (by first | (with_reducible assumption) | (with_reducible exact own_drew (by assumption)) | exact ⟨by simp [go_sem], by simp [go_sem]⟩) ?_))
  intro wd k0
  have lw : w.heap.size ≤ wd.heap.size := k0.2.2.size
  have lt0 : w.heap.size < wd.heap.size := World.block_lt_of_cell? _ _ (((k0.row (b := w.heap.size) (vs := [.int .i64 x.1, .int .i64 x.2, .int .i64 y.1, .int .i64 y.2, .int .i64 z.1, .int .i64 z.2]) (by simp)).at 0 rfl).1)
  have lt1 : w.heap.size + 1 < wd.heap.size := World.block_lt_of_cell? _ _ (((k0.row (b := w.heap.size + 1) (vs := [.int .i64 x'.1, .int .i64 x'.2, .int .i64 y'.1, .int .i64 y'.2, .int .i64 z'.1, .int .i64 z'.2]) (by simp)).at 0 rfl).1)
  refine AnyS.take (i := 0) (v := .agg #[.int .i64 x.1, .int .i64 x.2, .int .i64 y.1, .int .i64 y.2, .int .i64 z.1, .int .i64 z.2]) (T := RowsK w [(w.heap.size, [.int .i64 x.1, .int .i64 x.2, .int .i64 y.1, .int .i64 y.2, .int .i64 z.1, .int .i64 z.2]), (w.heap.size + 1, [.int .i64 x'.1, .int .i64 x'.2, .int .i64 y'.1, .int .i64 y'.2, .int .i64 z'.1, .int .i64 z'.2])] (fun _ => True)) [6] rfl (by kernel_rfl) (by kernel_rfl) (by kernel_rfl) (by kernel_rfl) (by kernel_rfl) (fun _ _ _ h => h) (fun L u q h => h (q 6 (by simp))) (fun L u h => OneS.less (by decide) h) (Or.inl ⟨by rfl, ?_⟩) (fun _ => k0) ?_
  · intro u hu
    have hr0 : RowAt u w.heap.size 0 [.int .i64 x.1, .int .i64 x.2, .int .i64 y.1, .int .i64 y.2, .int .i64 z.1, .int .i64 z.2] := hu.row (by simp)
    have c0_0 := (hr0.at 0 rfl).1
    have c0_1 := (hr0.at 1 rfl).1
    have c0_2 := (hr0.at 2 rfl).1
    have c0_3 := (hr0.at 3 rfl).1
    have c0_4 := (hr0.at 4 rfl).1
    have c0_5 := (hr0.at 5 rfl).1
    have hr1 : RowAt u (w.heap.size + 1) 0 [.int .i64 x'.1, .int .i64 x'.2, .int .i64 y'.1, .int .i64 y'.2, .int .i64 z'.1, .int .i64 z'.2] := hu.row (by simp)
    have c1_0 := (hr1.at 0 rfl).1
    have c1_1 := (hr1.at 1 rfl).1
    have c1_2 := (hr1.at 2 rfl).1
    have c1_3 := (hr1.at 3 rfl).1
    have c1_4 := (hr1.at 4 rfl).1
    have c1_5 := (hr1.at 5 rfl).1
    clear hu
    go_simp
  try simp only [Act.put, List.getElem_toArray, List.getElem_cons_zero, List.getElem_cons_succ, List.setIfInBounds_toArray, List.set_cons_zero, List.set_cons_succ]
  refine AnyS.take (i := 2) (v := .agg #[.int .i64 x'.1, .int .i64 x'.2, .int .i64 y'.1, .int .i64 y'.2, .int .i64 z'.1, .int .i64 z'.2]) (T := RowsK w [(w.heap.size, [.int .i64 x.1, .int .i64 x.2, .int .i64 y.1, .int .i64 y.2, .int .i64 z.1, .int .i64 z.2]), (w.heap.size + 1, [.int .i64 x'.1, .int .i64 x'.2, .int .i64 y'.1, .int .i64 y'.2, .int .i64 z'.1, .int .i64 z'.2])] (fun _ => True)) [6] rfl (by kernel_rfl) (by kernel_rfl) (by kernel_rfl) (by kernel_rfl) (by kernel_rfl) (fun _ _ _ h => h) (fun L u q h => h (q 6 (by simp))) (fun L u h => OneS.less (by decide) h) (Or.inl ⟨by rfl, ?_⟩) (fun _ => k0) ?_
  · intro u hu
    have hr0 : RowAt u w.heap.size 0 [.int .i64 x.1, .int .i64 x.2, .int .i64 y.1, .int .i64 y.2, .int .i64 z.1, .int .i64 z.2] := hu.row (by simp)
    have c0_0 := (hr0.at 0 rfl).1
    have c0_1 := (hr0.at 1 rfl).1
    have c0_2 := (hr0.at 2 rfl).1
    have c0_3 := (hr0.at 3 rfl).1
    have c0_4 := (hr0.at 4 rfl).1
    have c0_5 := (hr0.at 5 rfl).1
    have hr1 : RowAt u (w.heap.size + 1) 0 [.int .i64 x'.1, .int .i64 x'.2, .int .i64 y'.1, .int .i64 y'.2, .int .i64 z'.1, .int .i64 z'.2] := hu.row (by simp)
    have c1_0 := (hr1.at 0 rfl).1
    have c1_1 := (hr1.at 1 rfl).1
    have c1_2 := (hr1.at 2 rfl).1
    have c1_3 := (hr1.at 3 rfl).1
    have c1_4 := (hr1.at 4 rfl).1
    have c1_5 := (hr1.at 5 rfl).1
    clear hu
    go_simp
  try simp only [Act.put, List.getElem_toArray, List.getElem_cons_zero, List.getElem_cons_succ, List.setIfInBounds_toArray, List.set_cons_zero, List.set_cons_succ]
  refine AnyS.std (n := 1) [(1, 8, .agg #[.int .i64 x.1, .int .i64 x.2, .int .i64 y.1, .int .i64 y.2, .int .i64 z.1, .int .i64 z.2]), (3, 10, .agg #[.int .i64 x'.1, .int .i64 x'.2, .int .i64 y'.1, .int .i64 y'.2, .int .i64 z'.1, .int .i64 z'.2]), (4, 11, .agg #[.int .i64 (subI (mulI y z') (mulI z y')).1, .int .i64 (subI (mulI y z') (mulI z y')).2, .int .i64 (subI (mulI z x') (mulI x z')).1, .int .i64 (subI (mulI z x') (mulI x z')).2, .int .i64 (subI (mulI x y') (mulI y x')).1, .int .i64 (subI (mulI x y') (mulI y x')).2])] [(5, 5, [.int .i64 0, .int .i64 0, .int .i64 0, .int .i64 0, .int .i64 0, .int .i64 0], 52)] (RowsK w [(w.heap.size, [.int .i64 x.1, .int .i64 x.2, .int .i64 y.1, .int .i64 y.2, .int .i64 z.1, .int .i64 z.2]), (w.heap.size + 1, [.int .i64 x'.1, .int .i64 x'.2, .int .i64 y'.1, .int .i64 y'.2, .int .i64 z'.1, .int .i64 z'.2])] (fun _ => True)) (wd.heap.size) (fun u u' h hb => h.kept (fun _ _ h _ => h) hb) (by kernel_rfl) (by kernel_rfl) (by kernel_rfl) (by kernel_rfl) (fun u L h _ => h) k0 (Nat.le_refl _) ?_ ?_ ?_
  · intro c hc t u ku lu hp
    simp only [List.mem_cons, List.not_mem_nil, or_false] at hc
    rcases hc with rfl | rfl | rfl
    · clear hp
      simp only [LatC.op, LatC.dst, LatC.val, LatB.op, LatB.dst, LatB.zs, LatB.ty, List.map, List.cons_append, List.nil_append, putA, Act.put, List.setIfInBounds_toArray, List.set_cons_zero, List.set_cons_succ]
      refine wpOp_step rfl (fun K' hK' => ?_)
      have hK := Lib.hid hK'
      clear hK'
      go_simp
      with_reducible refine (toVec_any x y z _).mono ?_
      rintro _ u1 ⟨rfl, hb1⟩
      go_wp2_with fail
      exact hK.out _ _ ⟨rfl, hb1⟩
    · clear hp
      simp only [LatC.op, LatC.dst, LatC.val, LatB.op, LatB.dst, LatB.zs, LatB.ty, List.map, List.cons_append, List.nil_append, putA, Act.put, List.setIfInBounds_toArray, List.set_cons_zero, List.set_cons_succ]
      refine wpOp_step rfl (fun K' hK' => ?_)
      have hK := Lib.hid hK'
      clear hK'
      go_simp
      with_reducible refine (toVec_any x' y' z' _).mono ?_
      rintro _ u1 ⟨rfl, hb1⟩
      go_wp2_with fail
      exact hK.out _ _ ⟨rfl, hb1⟩
    · have q8 : t 8 = .agg #[.int .i64 x.1, .int .i64 x.2, .int .i64 y.1, .int .i64 y.2, .int .i64 z.1, .int .i64 z.2] := hp (1, 8, .agg #[.int .i64 x.1, .int .i64 x.2, .int .i64 y.1, .int .i64 y.2, .int .i64 z.1, .int .i64 z.2]) (by simp) (by kernel_rfl)
      have q10 : t 10 = .agg #[.int .i64 x'.1, .int .i64 x'.2, .int .i64 y'.1, .int .i64 y'.2, .int .i64 z'.1, .int .i64 z'.2] := hp (3, 10, .agg #[.int .i64 x'.1, .int .i64 x'.2, .int .i64 y'.1, .int .i64 y'.2, .int .i64 z'.1, .int .i64 z'.2]) (by simp) (by kernel_rfl)
      clear hp
      simp only [LatC.op, LatC.dst, LatC.val, LatB.op, LatB.dst, LatB.zs, LatB.ty, List.map, List.cons_append, List.nil_append, putA, Act.put, List.setIfInBounds_toArray, List.set_cons_zero, List.set_cons_succ]
      simp only [q8]
      simp only [q10]
      refine wpOp_step rfl (fun K' hK' => ?_)
      have hK := Lib.hid hK'
      clear hK'
      go_simp
      with_reducible refine (sCrossV_any x y z x' y' z' _).mono ?_
      rintro _ u1 ⟨rfl, hb1⟩
      go_wp2_with fail
      exact hK.out _ _ ⟨rfl, hb1⟩
  · intro b hb t u ku
    simp only [List.mem_cons, List.not_mem_nil, or_false] at hb
    rcases hb with rfl
    all_goals (simp only [LatC.op, LatC.dst, LatC.val, LatB.op, LatB.dst, LatB.zs, LatB.ty, List.map, List.cons_append, List.nil_append, putA, Act.put, List.setIfInBounds_toArray, List.set_cons_zero, List.set_cons_succ]; refine wpOp_step rfl (fun K' hK' => ?_); have hK := Lib.hid hK'; clear hK'; go_simp; exact hK.out _ _ ⟨rfl, rfl⟩)
  intro t u g ku lu hcs hbs hne
  have t8 : t 8 = .agg #[.int .i64 x.1, .int .i64 x.2, .int .i64 y.1, .int .i64 y.2, .int .i64 z.1, .int .i64 z.2] := hcs (1, 8, .agg #[.int .i64 x.1, .int .i64 x.2, .int .i64 y.1, .int .i64 y.2, .int .i64 z.1, .int .i64 z.2]) (by simp)
  have t10 : t 10 = .agg #[.int .i64 x'.1, .int .i64 x'.2, .int .i64 y'.1, .int .i64 y'.2, .int .i64 z'.1, .int .i64 z'.2] := hcs (3, 10, .agg #[.int .i64 x'.1, .int .i64 x'.2, .int .i64 y'.1, .int .i64 y'.2, .int .i64 z'.1, .int .i64 z'.2]) (by simp)
  have t11 : t 11 = .agg #[.int .i64 (subI (mulI y z') (mulI z y')).1, .int .i64 (subI (mulI y z') (mulI z y')).2, .int .i64 (subI (mulI z x') (mulI x z')).1, .int .i64 (subI (mulI z x') (mulI x z')).2, .int .i64 (subI (mulI x y') (mulI y x')).1, .int .i64 (subI (mulI x y') (mulI y x')).2] := hcs (4, 11, .agg #[.int .i64 (subI (mulI y z') (mulI z y')).1, .int .i64 (subI (mulI y z') (mulI z y')).2, .int .i64 (subI (mulI z x') (mulI x z')).1, .int .i64 (subI (mulI z x') (mulI x z')).2, .int .i64 (subI (mulI x y') (mulI y x')).1, .int .i64 (subI (mulI x y') (mulI y x')).2]) (by simp)
  obtain ⟨t5, lg5, _, hr5⟩ := hbs (5, 5, [.int .i64 0, .int .i64 0, .int .i64 0, .int .i64 0, .int .i64 0, .int .i64 0], 52) (by simp)
  simp only [LatB.op, LatB.dst] at t5 lg5 hr5
  have b5_0 : Own u (g 5) 0 (.int .i64 0) := hr5 0 _ rfl
  have b5_1 : Own u (g 5) 1 (.int .i64 0) := hr5 1 _ rfl
  have b5_2 : Own u (g 5) 2 (.int .i64 0) := hr5 2 _ rfl
  have b5_3 : Own u (g 5) 3 (.int .i64 0) := hr5 3 _ rfl
  have b5_4 : Own u (g 5) 4 (.int .i64 0) := hr5 4 _ rfl
  have b5_5 : Own u (g 5) 5 (.int .i64 0) := hr5 5 _ rfl
  clear hr5
  clear hcs hbs hne
  generalize g 5 = g5 at *
  simp only [LatC.op, LatC.dst, LatC.val, LatB.op, LatB.dst, LatB.zs, LatB.ty, List.map, List.cons_append, List.nil_append, setL, if_true, putA, Act.put, List.setIfInBounds_toArray, List.set_cons_zero, List.set_cons_succ, t8, t10, t11, t5]
  clear t8 t10 t11 t5
  have sc0 := b5_0.1
  have sc1 := b5_1.1
  have sc2 := b5_2.1
  have sc3 := b5_3.1
  have sc4 := b5_4.1
  have sc5 := b5_5.1
  have sf0 := b5_0.2
  have sf1 := b5_1.2
  have sf2 := b5_2.2
  have sf3 := b5_3.2
  have sf4 := b5_4.2
  have sf5 := b5_5.2
  refine AnyS.one (i := 6) (by kernel_rfl) (AnyS.comes rfl (fun K hK => ?_))
  go_simp
  refine hK.out _ _ (fun h => absurd h (by decide)) ?_
  clear hK K
  try simp only [Act.put, List.getElem_toArray, List.getElem_cons_zero, List.getElem_cons_succ, List.setIfInBounds_toArray, List.set_cons_zero, List.set_cons_succ]
  clear sc0 sf0 sc1 sf1 sc2 sf2 sc3 sf3 sc4 sf4 sc5 sf5
  obtain ⟨va0, hv⟩ : ∃ q : World, q = ((((((u.setCell ⟨g5, 0, none⟩ (.int .i64 (subI (mulI y z') (mulI z y')).1)).setCell ⟨g5, 1, none⟩ (.int .i64 (subI (mulI y z') (mulI z y')).2)).setCell ⟨g5, 2, none⟩ (.int .i64 (subI (mulI z x') (mulI x z')).1)).setCell ⟨g5, 3, none⟩ (.int .i64 (subI (mulI z x') (mulI x z')).2)).setCell ⟨g5, 4, none⟩ (.int .i64 (subI (mulI x y') (mulI y x')).1)).setCell ⟨g5, 5, none⟩ (.int .i64 (subI (mulI x y') (mulI y x')).2)) := ⟨_, rfl⟩
  rw [← hv]
  have n5_0 : Own va0 g5 0 (.int .i64 (subI (mulI y z') (mulI z y')).1) := by rw [hv]; exact (own_next (by decide) (own_next (by decide) (own_next (by decide) (own_next (by decide) (own_next (by decide) (own_put b5_0))))))
  have n5_1 : Own va0 g5 1 (.int .i64 (subI (mulI y z') (mulI z y')).2) := by rw [hv]; exact (own_next (by decide) (own_next (by decide) (own_next (by decide) (own_next (by decide) (own_put (own_next (by decide) b5_1))))))
  have n5_2 : Own va0 g5 2 (.int .i64 (subI (mulI z x') (mulI x z')).1) := by rw [hv]; exact (own_next (by decide) (own_next (by decide) (own_next (by decide) (own_put (own_next (by decide) (own_next (by decide) b5_2))))))
  have n5_3 : Own va0 g5 3 (.int .i64 (subI (mulI z x') (mulI x z')).2) := by rw [hv]; exact (own_next (by decide) (own_next (by decide) (own_put (own_next (by decide) (own_next (by decide) (own_next (by decide) b5_3))))))
  have n5_4 : Own va0 g5 4 (.int .i64 (subI (mulI x y') (mulI y x')).1) := by rw [hv]; exact (own_next (by decide) (own_put (own_next (by decide) (own_next (by decide) (own_next (by decide) (own_next (by decide) b5_4))))))
  have n5_5 : Own va0 g5 5 (.int .i64 (subI (mulI x y') (mulI y x')).2) := by rw [hv]; exact (own_put (own_next (by decide) (own_next (by decide) (own_next (by decide) (own_next (by decide) (own_next (by decide) b5_5))))))
  have bn : Below w.heap.size w va0 := by rw [hv]; exact Below.setCell (Below.setCell (Below.setCell (Below.setCell (Below.setCell (Below.setCell (ku.2.2) (by dsimp only; omega) _) (by dsimp only; omega) _) (by dsimp only; omega) _) (by dsimp only; omega) _) (by dsimp only; omega) _) (by dsimp only; omega) _
  have m0_0 : Own va0 w.heap.size 0 (.int .i64 x.1) := by rw [hv]; exact (own_far (by dsimp only; omega) (own_far (by dsimp only; omega) (own_far (by dsimp only; omega) (own_far (by dsimp only; omega) (own_far (by dsimp only; omega) (own_far (by dsimp only; omega) ((ku.row (b := w.heap.size) (vs := [.int .i64 x.1, .int .i64 x.2, .int .i64 y.1, .int .i64 y.2, .int .i64 z.1, .int .i64 z.2]) (by simp)).at 0 rfl)))))))
  have m0_1 : Own va0 w.heap.size 1 (.int .i64 x.2) := by rw [hv]; exact (own_far (by dsimp only; omega) (own_far (by dsimp only; omega) (own_far (by dsimp only; omega) (own_far (by dsimp only; omega) (own_far (by dsimp only; omega) (own_far (by dsimp only; omega) ((ku.row (b := w.heap.size) (vs := [.int .i64 x.1, .int .i64 x.2, .int .i64 y.1, .int .i64 y.2, .int .i64 z.1, .int .i64 z.2]) (by simp)).at 1 rfl)))))))
  have m0_2 : Own va0 w.heap.size 2 (.int .i64 y.1) := by rw [hv]; exact (own_far (by dsimp only; omega) (own_far (by dsimp only; omega) (own_far (by dsimp only; omega) (own_far (by dsimp only; omega) (own_far (by dsimp only; omega) (own_far (by dsimp only; omega) ((ku.row (b := w.heap.size) (vs := [.int .i64 x.1, .int .i64 x.2, .int .i64 y.1, .int .i64 y.2, .int .i64 z.1, .int .i64 z.2]) (by simp)).at 2 rfl)))))))
  have m0_3 : Own va0 w.heap.size 3 (.int .i64 y.2) := by rw [hv]; exact (own_far (by dsimp only; omega) (own_far (by dsimp only; omega) (own_far (by dsimp only; omega) (own_far (by dsimp only; omega) (own_far (by dsimp only; omega) (own_far (by dsimp only; omega) ((ku.row (b := w.heap.size) (vs := [.int .i64 x.1, .int .i64 x.2, .int .i64 y.1, .int .i64 y.2, .int .i64 z.1, .int .i64 z.2]) (by simp)).at 3 rfl)))))))
  have m0_4 : Own va0 w.heap.size 4 (.int .i64 z.1) := by rw [hv]; exact (own_far (by dsimp only; omega) (own_far (by dsimp only; omega) (own_far (by dsimp only; omega) (own_far (by dsimp only; omega) (own_far (by dsimp only; omega) (own_far (by dsimp only; omega) ((ku.row (b := w.heap.size) (vs := [.int .i64 x.1, .int .i64 x.2, .int .i64 y.1, .int .i64 y.2, .int .i64 z.1, .int .i64 z.2]) (by simp)).at 4 rfl)))))))
  have m0_5 : Own va0 w.heap.size 5 (.int .i64 z.2) := by rw [hv]; exact (own_far (by dsimp only; omega) (own_far (by dsimp only; omega) (own_far (by dsimp only; omega) (own_far (by dsimp only; omega) (own_far (by dsimp only; omega) (own_far (by dsimp only; omega) ((ku.row (b := w.heap.size) (vs := [.int .i64 x.1, .int .i64 x.2, .int .i64 y.1, .int .i64 y.2, .int .i64 z.1, .int .i64 z.2]) (by simp)).at 5 rfl)))))))
  have m1_0 : Own va0 (w.heap.size + 1) 0 (.int .i64 x'.1) := by rw [hv]; exact (own_far (by dsimp only; omega) (own_far (by dsimp only; omega) (own_far (by dsimp only; omega) (own_far (by dsimp only; omega) (own_far (by dsimp only; omega) (own_far (by dsimp only; omega) ((ku.row (b := w.heap.size + 1) (vs := [.int .i64 x'.1, .int .i64 x'.2, .int .i64 y'.1, .int .i64 y'.2, .int .i64 z'.1, .int .i64 z'.2]) (by simp)).at 0 rfl)))))))
  have m1_1 : Own va0 (w.heap.size + 1) 1 (.int .i64 x'.2) := by rw [hv]; exact (own_far (by dsimp only; omega) (own_far (by dsimp only; omega) (own_far (by dsimp only; omega) (own_far (by dsimp only; omega) (own_far (by dsimp only; omega) (own_far (by dsimp only; omega) ((ku.row (b := w.heap.size + 1) (vs := [.int .i64 x'.1, .int .i64 x'.2, .int .i64 y'.1, .int .i64 y'.2, .int .i64 z'.1, .int .i64 z'.2]) (by simp)).at 1 rfl)))))))
  have m1_2 : Own va0 (w.heap.size + 1) 2 (.int .i64 y'.1) := by rw [hv]; exact (own_far (by dsimp only; omega) (own_far (by dsimp only; omega) (own_far (by dsimp only; omega) (own_far (by dsimp only; omega) (own_far (by dsimp only; omega) (own_far (by dsimp only; omega) ((ku.row (b := w.heap.size + 1) (vs := [.int .i64 x'.1, .int .i64 x'.2, .int .i64 y'.1, .int .i64 y'.2, .int .i64 z'.1, .int .i64 z'.2]) (by simp)).at 2 rfl)))))))
  have m1_3 : Own va0 (w.heap.size + 1) 3 (.int .i64 y'.2) := by rw [hv]; exact (own_far (by dsimp only; omega) (own_far (by dsimp only; omega) (own_far (by dsimp only; omega) (own_far (by dsimp only; omega) (own_far (by dsimp only; omega) (own_far (by dsimp only; omega) ((ku.row (b := w.heap.size + 1) (vs := [.int .i64 x'.1, .int .i64 x'.2, .int .i64 y'.1, .int .i64 y'.2, .int .i64 z'.1, .int .i64 z'.2]) (by simp)).at 3 rfl)))))))
  have m1_4 : Own va0 (w.heap.size + 1) 4 (.int .i64 z'.1) := by rw [hv]; exact (own_far (by dsimp only; omega) (own_far (by dsimp only; omega) (own_far (by dsimp only; omega) (own_far (by dsimp only; omega) (own_far (by dsimp only; omega) (own_far (by dsimp only; omega) ((ku.row (b := w.heap.size + 1) (vs := [.int .i64 x'.1, .int .i64 x'.2, .int .i64 y'.1, .int .i64 y'.2, .int .i64 z'.1, .int .i64 z'.2]) (by simp)).at 4 rfl)))))))
  have m1_5 : Own va0 (w.heap.size + 1) 5 (.int .i64 z'.2) := by rw [hv]; exact (own_far (by dsimp only; omega) (own_far (by dsimp only; omega) (own_far (by dsimp only; omega) (own_far (by dsimp only; omega) (own_far (by dsimp only; omega) (own_far (by dsimp only; omega) ((ku.row (b := w.heap.size + 1) (vs := [.int .i64 x'.1, .int .i64 x'.2, .int .i64 y'.1, .int .i64 y'.2, .int .i64 z'.1, .int .i64 z'.2]) (by simp)).at 5 rfl)))))))
  clear hv b5_0 b5_1 b5_2 b5_3 b5_4 b5_5 
  have b5_0 := n5_0
  have b5_1 := n5_1
  have b5_2 := n5_2
  have b5_3 := n5_3
  have b5_4 := n5_4
  have b5_5 := n5_5
  have bk := bn
  clear bn n5_0 n5_1 n5_2 n5_3 n5_4 n5_5
  have r0_0 := m0_0
  have r0_1 := m0_1
  have r0_2 := m0_2
  have r0_3 := m0_3
  have r0_4 := m0_4
  have r0_5 := m0_5
  have r1_0 := m1_0
  have r1_1 := m1_1
  have r1_2 := m1_2
  have r1_3 := m1_3
  have r1_4 := m1_4
  have r1_5 := m1_5
  clear m0_0 m0_1 m0_2 m0_3 m0_4 m0_5 m1_0 m1_1 m1_2 m1_3 m1_4 m1_5
  refine AnyS.done (by kernel_rfl) ?_ _
  clear ku lu lg5 lt0 lt1 lw k0
  go_upto_region 2 with fail
  refine AnyS.enter (K := RowsK w [(w.heap.size, [.int .i64 x.1, .int .i64 x.2, .int .i64 y.1, .int .i64 y.2, .int .i64 z.1, .int .i64 z.2]), (w.heap.size + 1, [.int .i64 x'.1, .int .i64 x'.2, .int .i64 y'.1, .int .i64 y'.2, .int .i64 z'.1, .int .i64 z'.2]), (g5, [.int .i64 (subI (mulI y z') (mulI z y')).1, .int .i64 (subI (mulI y z') (mulI z y')).2, .int .i64 (subI (mulI z x') (mulI x z')).1, .int .i64 (subI (mulI z x') (mulI x z')).2, .int .i64 (subI (mulI x y') (mulI y x')).1, .int .i64 (subI (mulI x y') (mulI y x')).2])] (fun _ => True)) (s := 6) (by kernel_rfl) ⟨?_, trivial, belS⟩ ?_
  · intro r hr
    simp only [List.mem_cons, List.not_mem_nil, or_false] at hr
    rcases hr with rfl | rfl | rfl
    all_goals (dsimp only; repeat (first | (with_reducible assumption) | (with_reducible exact RowAt.drew (by assumption)) | exact row_nil | refine row_cons (by first | (with_reducible assumption) | (with_reducible exact own_drew (by assumption)) | exact ⟨by simp [go_sem], by simp [go_sem]⟩) ?_))
  intro wd k0
  have lw : w.heap.size ≤ wd.heap.size := k0.2.2.size
  have lt0 : w.heap.size < wd.heap.size := World.block_lt_of_cell? _ _ (((k0.row (b := w.heap.size) (vs := [.int .i64 x.1, .int .i64 x.2, .int .i64 y.1, .int .i64 y.2, .int .i64 z.1, .int .i64 z.2]) (by simp)).at 0 rfl).1)
  have lt1 : w.heap.size + 1 < wd.heap.size := World.block_lt_of_cell? _ _ (((k0.row (b := w.heap.size + 1) (vs := [.int .i64 x'.1, .int .i64 x'.2, .int .i64 y'.1, .int .i64 y'.2, .int .i64 z'.1, .int .i64 z'.2]) (by simp)).at 0 rfl).1)
  have lt2 : g5 < wd.heap.size := World.block_lt_of_cell? _ _ (((k0.row (b := g5) (vs := [.int .i64 (subI (mulI y z') (mulI z y')).1, .int .i64 (subI (mulI y z') (mulI z y')).2, .int .i64 (subI (mulI z x') (mulI x z')).1, .int .i64 (subI (mulI z x') (mulI x z')).2, .int .i64 (subI (mulI x y') (mulI y x')).1, .int .i64 (subI (mulI x y') (mulI y x')).2]) (by simp)).at 0 rfl).1)
  refine AnyS.take (i := 0) (v := .agg #[.int .i64 x.1, .int .i64 x.2, .int .i64 y.1, .int .i64 y.2, .int .i64 z.1, .int .i64 z.2]) (T := RowsK w [(w.heap.size, [.int .i64 x.1, .int .i64 x.2, .int .i64 y.1, .int .i64 y.2, .int .i64 z.1, .int .i64 z.2]), (w.heap.size + 1, [.int .i64 x'.1, .int .i64 x'.2, .int .i64 y'.1, .int .i64 y'.2, .int .i64 z'.1, .int .i64 z'.2]), (g5, [.int .i64 (subI (mulI y z') (mulI z y')).1, .int .i64 (subI (mulI y z') (mulI z y')).2, .int .i64 (subI (mulI z x') (mulI x z')).1, .int .i64 (subI (mulI z x') (mulI x z')).2, .int .i64 (subI (mulI x y') (mulI y x')).1, .int .i64 (subI (mulI x y') (mulI y x')).2])] (fun _ => True)) [6] rfl (by kernel_rfl) (by kernel_rfl) (by kernel_rfl) (by kernel_rfl) (by kernel_rfl) (fun _ _ _ h => h) (fun L u q h => h (q 6 (by simp))) (fun L u h => OneS.less (by decide) h) (Or.inl ⟨by rfl, ?_⟩) (fun _ => k0) ?_
  · intro u hu
    have hr0 : RowAt u w.heap.size 0 [.int .i64 x.1, .int .i64 x.2, .int .i64 y.1, .int .i64 y.2, .int .i64 z.1, .int .i64 z.2] := hu.row (by simp)
    have c0_0 := (hr0.at 0 rfl).1
    have c0_1 := (hr0.at 1 rfl).1
    have c0_2 := (hr0.at 2 rfl).1
    have c0_3 := (hr0.at 3 rfl).1
    have c0_4 := (hr0.at 4 rfl).1
    have c0_5 := (hr0.at 5 rfl).1
    have hr1 : RowAt u (w.heap.size + 1) 0 [.int .i64 x'.1, .int .i64 x'.2, .int .i64 y'.1, .int .i64 y'.2, .int .i64 z'.1, .int .i64 z'.2] := hu.row (by simp)
    have c1_0 := (hr1.at 0 rfl).1
    have c1_1 := (hr1.at 1 rfl).1
    have c1_2 := (hr1.at 2 rfl).1
    have c1_3 := (hr1.at 3 rfl).1
    have c1_4 := (hr1.at 4 rfl).1
    have c1_5 := (hr1.at 5 rfl).1
    have hr2 : RowAt u g5 0 [.int .i64 (subI (mulI y z') (mulI z y')).1, .int .i64 (subI (mulI y z') (mulI z y')).2, .int .i64 (subI (mulI z x') (mulI x z')).1, .int .i64 (subI (mulI z x') (mulI x z')).2, .int .i64 (subI (mulI x y') (mulI y x')).1, .int .i64 (subI (mulI x y') (mulI y x')).2] := hu.row (by simp)
    have c2_0 := (hr2.at 0 rfl).1
    have c2_1 := (hr2.at 1 rfl).1
    have c2_2 := (hr2.at 2 rfl).1
    have c2_3 := (hr2.at 3 rfl).1
    have c2_4 := (hr2.at 4 rfl).1
    have c2_5 := (hr2.at 5 rfl).1
    clear hu
    go_simp
  try simp only [Act.put, List.getElem_toArray, List.getElem_cons_zero, List.getElem_cons_succ, List.setIfInBounds_toArray, List.set_cons_zero, List.set_cons_succ]
  refine AnyS.take (i := 2) (v := .agg #[.int .i64 x'.1, .int .i64 x'.2, .int .i64 y'.1, .int .i64 y'.2, .int .i64 z'.1, .int .i64 z'.2]) (T := RowsK w [(w.heap.size, [.int .i64 x.1, .int .i64 x.2, .int .i64 y.1, .int .i64 y.2, .int .i64 z.1, .int .i64 z.2]), (w.heap.size + 1, [.int .i64 x'.1, .int .i64 x'.2, .int .i64 y'.1, .int .i64 y'.2, .int .i64 z'.1, .int .i64 z'.2]), (g5, [.int .i64 (subI (mulI y z') (mulI z y')).1, .int .i64 (subI (mulI y z') (mulI z y')).2, .int .i64 (subI (mulI z x') (mulI x z')).1, .int .i64 (subI (mulI z x') (mulI x z')).2, .int .i64 (subI (mulI x y') (mulI y x')).1, .int .i64 (subI (mulI x y') (mulI y x')).2])] (fun _ => True)) [6] rfl (by kernel_rfl) (by kernel_rfl) (by kernel_rfl) (by kernel_rfl) (by kernel_rfl) (fun _ _ _ h => h) (fun L u q h => h (q 6 (by simp))) (fun L u h => OneS.less (by decide) h) (Or.inl ⟨by rfl, ?_⟩) (fun _ => k0) ?_
  · intro u hu
    have hr0 : RowAt u w.heap.size 0 [.int .i64 x.1, .int .i64 x.2, .int .i64 y.1, .int .i64 y.2, .int .i64 z.1, .int .i64 z.2] := hu.row (by simp)
    have c0_0 := (hr0.at 0 rfl).1
    have c0_1 := (hr0.at 1 rfl).1
    have c0_2 := (hr0.at 2 rfl).1
    have c0_3 := (hr0.at 3 rfl).1
    have c0_4 := (hr0.at 4 rfl).1
    have c0_5 := (hr0.at 5 rfl).1
    have hr1 : RowAt u (w.heap.size + 1) 0 [.int .i64 x'.1, .int .i64 x'.2, .int .i64 y'.1, .int .i64 y'.2, .int .i64 z'.1, .int .i64 z'.2] := hu.row (by simp)
    have c1_0 := (hr1.at 0 rfl).1
    have c1_1 := (hr1.at 1 rfl).1
    have c1_2 := (hr1.at 2 rfl).1
    have c1_3 := (hr1.at 3 rfl).1
    have c1_4 := (hr1.at 4 rfl).1
    have c1_5 := (hr1.at 5 rfl).1
    have hr2 : RowAt u g5 0 [.int .i64 (subI (mulI y z') (mulI z y')).1, .int .i64 (subI (mulI y z') (mulI z y')).2, .int .i64 (subI (mulI z x') (mulI x z')).1, .int .i64 (subI (mulI z x') (mulI x z')).2, .int .i64 (subI (mulI x y') (mulI y x')).1, .int .i64 (subI (mulI x y') (mulI y x')).2] := hu.row (by simp)
    have c2_0 := (hr2.at 0 rfl).1
    have c2_1 := (hr2.at 1 rfl).1
    have c2_2 := (hr2.at 2 rfl).1
    have c2_3 := (hr2.at 3 rfl).1
    have c2_4 := (hr2.at 4 rfl).1
    have c2_5 := (hr2.at 5 rfl).1
    clear hu
    go_simp
  try simp only [Act.put, List.getElem_toArray, List.getElem_cons_zero, List.getElem_cons_succ, List.setIfInBounds_toArray, List.set_cons_zero, List.set_cons_succ]
  refine AnyS.std (n := 1) [(1, 13, .agg #[.int .i64 x.1, .int .i64 x.2, .int .i64 y.1, .int .i64 y.2, .int .i64 z.1, .int .i64 z.2]), (3, 15, .agg #[.int .i64 x'.1, .int .i64 x'.2, .int .i64 y'.1, .int .i64 y'.2, .int .i64 z'.1, .int .i64 z'.2]), (4, 16, .agg #[.int .i64 (subI (mulI y z') (mulI z y')).1, .int .i64 (subI (mulI y z') (mulI z y')).2, .int .i64 (subI (mulI z x') (mulI x z')).1, .int .i64 (subI (mulI z x') (mulI x z')).2, .int .i64 (subI (mulI x y') (mulI y x')).1, .int .i64 (subI (mulI x y') (mulI y x')).2])] [(5, 6, [.int .i64 0, .int .i64 0, .int .i64 0, .int .i64 0, .int .i64 0, .int .i64 0], 52)] (RowsK w [(w.heap.size, [.int .i64 x.1, .int .i64 x.2, .int .i64 y.1, .int .i64 y.2, .int .i64 z.1, .int .i64 z.2]), (w.heap.size + 1, [.int .i64 x'.1, .int .i64 x'.2, .int .i64 y'.1, .int .i64 y'.2, .int .i64 z'.1, .int .i64 z'.2]), (g5, [.int .i64 (subI (mulI y z') (mulI z y')).1, .int .i64 (subI (mulI y z') (mulI z y')).2, .int .i64 (subI (mulI z x') (mulI x z')).1, .int .i64 (subI (mulI z x') (mulI x z')).2, .int .i64 (subI (mulI x y') (mulI y x')).1, .int .i64 (subI (mulI x y') (mulI y x')).2])] (fun _ => True)) (wd.heap.size) (fun u u' h hb => h.kept (fun _ _ h _ => h) hb) (by kernel_rfl) (by kernel_rfl) (by kernel_rfl) (by kernel_rfl) (fun u L h _ => h) k0 (Nat.le_refl _) ?_ ?_ ?_
  · intro c hc t u ku lu hp
    simp only [List.mem_cons, List.not_mem_nil, or_false] at hc
    rcases hc with rfl | rfl | rfl
    · clear hp
      simp only [LatC.op, LatC.dst, LatC.val, LatB.op, LatB.dst, LatB.zs, LatB.ty, List.map, List.cons_append, List.nil_append, putA, Act.put, List.setIfInBounds_toArray, List.set_cons_zero, List.set_cons_succ]
      refine wpOp_step rfl (fun K' hK' => ?_)
      have hK := Lib.hid hK'
      clear hK'
      go_simp
      with_reducible refine (toVec_any x y z _).mono ?_
      rintro _ u1 ⟨rfl, hb1⟩
      go_wp2_with fail
      exact hK.out _ _ ⟨rfl, hb1⟩
    · clear hp
      simp only [LatC.op, LatC.dst, LatC.val, LatB.op, LatB.dst, LatB.zs, LatB.ty, List.map, List.cons_append, List.nil_append, putA, Act.put, List.setIfInBounds_toArray, List.set_cons_zero, List.set_cons_succ]
      refine wpOp_step rfl (fun K' hK' => ?_)
      have hK := Lib.hid hK'
      clear hK'
      go_simp
      with_reducible refine (toVec_any x' y' z' _).mono ?_
      rintro _ u1 ⟨rfl, hb1⟩
      go_wp2_with fail
      exact hK.out _ _ ⟨rfl, hb1⟩
    · have q13 : t 13 = .agg #[.int .i64 x.1, .int .i64 x.2, .int .i64 y.1, .int .i64 y.2, .int .i64 z.1, .int .i64 z.2] := hp (1, 13, .agg #[.int .i64 x.1, .int .i64 x.2, .int .i64 y.1, .int .i64 y.2, .int .i64 z.1, .int .i64 z.2]) (by simp) (by kernel_rfl)
      have q15 : t 15 = .agg #[.int .i64 x'.1, .int .i64 x'.2, .int .i64 y'.1, .int .i64 y'.2, .int .i64 z'.1, .int .i64 z'.2] := hp (3, 15, .agg #[.int .i64 x'.1, .int .i64 x'.2, .int .i64 y'.1, .int .i64 y'.2, .int .i64 z'.1, .int .i64 z'.2]) (by simp) (by kernel_rfl)
      clear hp
      simp only [LatC.op, LatC.dst, LatC.val, LatB.op, LatB.dst, LatB.zs, LatB.ty, List.map, List.cons_append, List.nil_append, putA, Act.put, List.setIfInBounds_toArray, List.set_cons_zero, List.set_cons_succ]
      simp only [q13]
      simp only [q15]
      refine wpOp_step rfl (fun K' hK' => ?_)
      have hK := Lib.hid hK'
      clear hK'
      go_simp
      with_reducible refine (CrossV_any x y z x' y' z' ox oy oz ox' oy' oz' _).mono ?_
      rintro _ u1 ⟨rfl, hb1⟩
      go_wp2_with fail
      exact hK.out _ _ ⟨rfl, hb1⟩
  · intro b hb t u ku
    simp only [List.mem_cons, List.not_mem_nil, or_false] at hb
    rcases hb with rfl
    all_goals (simp only [LatC.op, LatC.dst, LatC.val, LatB.op, LatB.dst, LatB.zs, LatB.ty, List.map, List.cons_append, List.nil_append, putA, Act.put, List.setIfInBounds_toArray, List.set_cons_zero, List.set_cons_succ]; refine wpOp_step rfl (fun K' hK' => ?_); have hK := Lib.hid hK'; clear hK'; go_simp; exact hK.out _ _ ⟨rfl, rfl⟩)
  intro t u g ku lu hcs hbs hne
  have t13 : t 13 = .agg #[.int .i64 x.1, .int .i64 x.2, .int .i64 y.1, .int .i64 y.2, .int .i64 z.1, .int .i64 z.2] := hcs (1, 13, .agg #[.int .i64 x.1, .int .i64 x.2, .int .i64 y.1, .int .i64 y.2, .int .i64 z.1, .int .i64 z.2]) (by simp)
  have t15 : t 15 = .agg #[.int .i64 x'.1, .int .i64 x'.2, .int .i64 y'.1, .int .i64 y'.2, .int .i64 z'.1, .int .i64 z'.2] := hcs (3, 15, .agg #[.int .i64 x'.1, .int .i64 x'.2, .int .i64 y'.1, .int .i64 y'.2, .int .i64 z'.1, .int .i64 z'.2]) (by simp)
  have t16 : t 16 = .agg #[.int .i64 (subI (mulI y z') (mulI z y')).1, .int .i64 (subI (mulI y z') (mulI z y')).2, .int .i64 (subI (mulI z x') (mulI x z')).1, .int .i64 (subI (mulI z x') (mulI x z')).2, .int .i64 (subI (mulI x y') (mulI y x')).1, .int .i64 (subI (mulI x y') (mulI y x')).2] := hcs (4, 16, .agg #[.int .i64 (subI (mulI y z') (mulI z y')).1, .int .i64 (subI (mulI y z') (mulI z y')).2, .int .i64 (subI (mulI z x') (mulI x z')).1, .int .i64 (subI (mulI z x') (mulI x z')).2, .int .i64 (subI (mulI x y') (mulI y x')).1, .int .i64 (subI (mulI x y') (mulI y x')).2]) (by simp)
  obtain ⟨t6, lg6, _, hr6⟩ := hbs (5, 6, [.int .i64 0, .int .i64 0, .int .i64 0, .int .i64 0, .int .i64 0, .int .i64 0], 52) (by simp)
  simp only [LatB.op, LatB.dst] at t6 lg6 hr6
  have b6_0 : Own u (g 5) 0 (.int .i64 0) := hr6 0 _ rfl
  have b6_1 : Own u (g 5) 1 (.int .i64 0) := hr6 1 _ rfl
  have b6_2 : Own u (g 5) 2 (.int .i64 0) := hr6 2 _ rfl
  have b6_3 : Own u (g 5) 3 (.int .i64 0) := hr6 3 _ rfl
  have b6_4 : Own u (g 5) 4 (.int .i64 0) := hr6 4 _ rfl
  have b6_5 : Own u (g 5) 5 (.int .i64 0) := hr6 5 _ rfl
  clear hr6
  clear hcs hbs hne
  generalize g 5 = g6 at *
  simp only [LatC.op, LatC.dst, LatC.val, LatB.op, LatB.dst, LatB.zs, LatB.ty, List.map, List.cons_append, List.nil_append, setL, if_true, putA, Act.put, List.setIfInBounds_toArray, List.set_cons_zero, List.set_cons_succ, t13, t15, t16, t6]
  clear t13 t15 t16 t6
  have sc0 := b6_0.1
  have sc1 := b6_1.1
  have sc2 := b6_2.1
  have sc3 := b6_3.1
  have sc4 := b6_4.1
  have sc5 := b6_5.1
  have sf0 := b6_0.2
  have sf1 := b6_1.2
  have sf2 := b6_2.2
  have sf3 := b6_3.2
  have sf4 := b6_4.2
  have sf5 := b6_5.2
  refine AnyS.one (i := 6) (by kernel_rfl) (AnyS.comes rfl (fun K hK => ?_))
  go_simp
  refine hK.out _ _ (fun h => absurd h (by decide)) ?_
  clear hK K
  try simp only [Act.put, List.getElem_toArray, List.getElem_cons_zero, List.getElem_cons_succ, List.setIfInBounds_toArray, List.set_cons_zero, List.set_cons_succ]
  clear sc0 sf0 sc1 sf1 sc2 sf2 sc3 sf3 sc4 sf4 sc5 sf5
  obtain ⟨vb0, hv⟩ : ∃ q : World, q = ((((((u.setCell ⟨g6, 0, none⟩ (.int .i64 (subI (mulI y z') (mulI z y')).1)).setCell ⟨g6, 1, none⟩ (.int .i64 (subI (mulI y z') (mulI z y')).2)).setCell ⟨g6, 2, none⟩ (.int .i64 (subI (mulI z x') (mulI x z')).1)).setCell ⟨g6, 3, none⟩ (.int .i64 (subI (mulI z x') (mulI x z')).2)).setCell ⟨g6, 4, none⟩ (.int .i64 (subI (mulI x y') (mulI y x')).1)).setCell ⟨g6, 5, none⟩ (.int .i64 (subI (mulI x y') (mulI y x')).2)) := ⟨_, rfl⟩
  rw [← hv]
  have n6_0 : Own vb0 g6 0 (.int .i64 (subI (mulI y z') (mulI z y')).1) := by rw [hv]; exact (own_next (by decide) (own_next (by decide) (own_next (by decide) (own_next (by decide) (own_next (by decide) (own_put b6_0))))))
  have n6_1 : Own vb0 g6 1 (.int .i64 (subI (mulI y z') (mulI z y')).2) := by rw [hv]; exact (own_next (by decide) (own_next (by decide) (own_next (by decide) (own_next (by decide) (own_put (own_next (by decide) b6_1))))))
  have n6_2 : Own vb0 g6 2 (.int .i64 (subI (mulI z x') (mulI x z')).1) := by rw [hv]; exact (own_next (by decide) (own_next (by decide) (own_next (by decide) (own_put (own_next (by decide) (own_next (by decide) b6_2))))))
  have n6_3 : Own vb0 g6 3 (.int .i64 (subI (mulI z x') (mulI x z')).2) := by rw [hv]; exact (own_next (by decide) (own_next (by decide) (own_put (own_next (by decide) (own_next (by decide) (own_next (by decide) b6_3))))))
  have n6_4 : Own vb0 g6 4 (.int .i64 (subI (mulI x y') (mulI y x')).1) := by rw [hv]; exact (own_next (by decide) (own_put (own_next (by decide) (own_next (by decide) (own_next (by decide) (own_next (by decide) b6_4))))))
  have n6_5 : Own vb0 g6 5 (.int .i64 (subI (mulI x y') (mulI y x')).2) := by rw [hv]; exact (own_put (own_next (by decide) (own_next (by decide) (own_next (by decide) (own_next (by decide) (own_next (by decide) b6_5))))))
  have bn : Below w.heap.size w vb0 := by rw [hv]; exact Below.setCell (Below.setCell (Below.setCell (Below.setCell (Below.setCell (Below.setCell (ku.2.2) (by dsimp only; omega) _) (by dsimp only; omega) _) (by dsimp only; omega) _) (by dsimp only; omega) _) (by dsimp only; omega) _) (by dsimp only; omega) _
  have m0_0 : Own vb0 w.heap.size 0 (.int .i64 x.1) := by rw [hv]; exact (own_far (by dsimp only; omega) (own_far (by dsimp only; omega) (own_far (by dsimp only; omega) (own_far (by dsimp only; omega) (own_far (by dsimp only; omega) (own_far (by dsimp only; omega) ((ku.row (b := w.heap.size) (vs := [.int .i64 x.1, .int .i64 x.2, .int .i64 y.1, .int .i64 y.2, .int .i64 z.1, .int .i64 z.2]) (by simp)).at 0 rfl)))))))
  have m0_1 : Own vb0 w.heap.size 1 (.int .i64 x.2) := by rw [hv]; exact (own_far (by dsimp only; omega) (own_far (by dsimp only; omega) (own_far (by dsimp only; omega) (own_far (by dsimp only; omega) (own_far (by dsimp only; omega) (own_far (by dsimp only; omega) ((ku.row (b := w.heap.size) (vs := [.int .i64 x.1, .int .i64 x.2, .int .i64 y.1, .int .i64 y.2, .int .i64 z.1, .int .i64 z.2]) (by simp)).at 1 rfl)))))))
  have m0_2 : Own vb0 w.heap.size 2 (.int .i64 y.1) := by rw [hv]; exact (own_far (by dsimp only; omega) (own_far (by dsimp only; omega) (own_far (by dsimp only; omega) (own_far (by dsimp only; omega) (own_far (by dsimp only; omega) (own_far (by dsimp only; omega) ((ku.row (b := w.heap.size) (vs := [.int .i64 x.1, .int .i64 x.2, .int .i64 y.1, .int .i64 y.2, .int .i64 z.1, .int .i64 z.2]) (by simp)).at 2 rfl)))))))
  have m0_3 : Own vb0 w.heap.size 3 (.int .i64 y.2) := by rw [hv]; exact (own_far (by dsimp only; omega) (own_far (by dsimp only; omega) (own_far (by dsimp only; omega) (own_far (by dsimp only; omega) (own_far (by dsimp only; omega) (own_far (by dsimp only; omega) ((ku.row (b := w.heap.size) (vs := [.int .i64 x.1, .int .i64 x.2, .int .i64 y.1, .int .i64 y.2, .int .i64 z.1, .int .i64 z.2]) (by simp)).at 3 rfl)))))))
  have m0_4 : Own vb0 w.heap.size 4 (.int .i64 z.1) := by rw [hv]; exact (own_far (by dsimp only; omega) (own_far (by dsimp only; omega) (own_far (by dsimp only; omega) (own_far (by dsimp only; omega) (own_far (by dsimp only; omega) (own_far (by dsimp only; omega) ((ku.row (b := w.heap.size) (vs := [.int .i64 x.1, .int .i64 x.2, .int .i64 y.1, .int .i64 y.2, .int .i64 z.1, .int .i64 z.2]) (by simp)).at 4 rfl)))))))
  have m0_5 : Own vb0 w.heap.size 5 (.int .i64 z.2) := by rw [hv]; exact (own_far (by dsimp only; omega) (own_far (by dsimp only; omega) (own_far (by dsimp only; omega) (own_far (by dsimp only; omega) (own_far (by dsimp only; omega) (own_far (by dsimp only; omega) ((ku.row (b := w.heap.size) (vs := [.int .i64 x.1, .int .i64 x.2, .int .i64 y.1, .int .i64 y.2, .int .i64 z.1, .int .i64 z.2]) (by simp)).at 5 rfl)))))))
  have m1_0 : Own vb0 (w.heap.size + 1) 0 (.int .i64 x'.1) := by rw [hv]; exact (own_far (by dsimp only; omega) (own_far (by dsimp only; omega) (own_far (by dsimp only; omega) (own_far (by dsimp only; omega) (own_far (by dsimp only; omega) (own_far (by dsimp only; omega) ((ku.row (b := w.heap.size + 1) (vs := [.int .i64 x'.1, .int .i64 x'.2, .int .i64 y'.1, .int .i64 y'.2, .int .i64 z'.1, .int .i64 z'.2]) (by simp)).at 0 rfl)))))))
  have m1_1 : Own vb0 (w.heap.size + 1) 1 (.int .i64 x'.2) := by rw [hv]; exact (own_far (by dsimp only; omega) (own_far (by dsimp only; omega) (own_far (by dsimp only; omega) (own_far (by dsimp only; omega) (own_far (by dsimp only; omega) (own_far (by dsimp only; omega) ((ku.row (b := w.heap.size + 1) (vs := [.int .i64 x'.1, .int .i64 x'.2, .int .i64 y'.1, .int .i64 y'.2, .int .i64 z'.1, .int .i64 z'.2]) (by simp)).at 1 rfl)))))))
  have m1_2 : Own vb0 (w.heap.size + 1) 2 (.int .i64 y'.1) := by rw [hv]; exact (own_far (by dsimp only; omega) (own_far (by dsimp only; omega) (own_far (by dsimp only; omega) (own_far (by dsimp only; omega) (own_far (by dsimp only; omega) (own_far (by dsimp only; omega) ((ku.row (b := w.heap.size + 1) (vs := [.int .i64 x'.1, .int .i64 x'.2, .int .i64 y'.1, .int .i64 y'.2, .int .i64 z'.1, .int .i64 z'.2]) (by simp)).at 2 rfl)))))))
  have m1_3 : Own vb0 (w.heap.size + 1) 3 (.int .i64 y'.2) := by rw [hv]; exact (own_far (by dsimp only; omega) (own_far (by dsimp only; omega) (own_far (by dsimp only; omega) (own_far (by dsimp only; omega) (own_far (by dsimp only; omega) (own_far (by dsimp only; omega) ((ku.row (b := w.heap.size + 1) (vs := [.int .i64 x'.1, .int .i64 x'.2, .int .i64 y'.1, .int .i64 y'.2, .int .i64 z'.1, .int .i64 z'.2]) (by simp)).at 3 rfl)))))))
  have m1_4 : Own vb0 (w.heap.size + 1) 4 (.int .i64 z'.1) := by rw [hv]; exact (own_far (by dsimp only; omega) (own_far (by dsimp only; omega) (own_far (by dsimp only; omega) (own_far (by dsimp only; omega) (own_far (by dsimp only; omega) (own_far (by dsimp only; omega) ((ku.row (b := w.heap.size + 1) (vs := [.int .i64 x'.1, .int .i64 x'.2, .int .i64 y'.1, .int .i64 y'.2, .int .i64 z'.1, .int .i64 z'.2]) (by simp)).at 4 rfl)))))))
  have m1_5 : Own vb0 (w.heap.size + 1) 5 (.int .i64 z'.2) := by rw [hv]; exact (own_far (by dsimp only; omega) (own_far (by dsimp only; omega) (own_far (by dsimp only; omega) (own_far (by dsimp only; omega) (own_far (by dsimp only; omega) (own_far (by dsimp only; omega) ((ku.row (b := w.heap.size + 1) (vs := [.int .i64 x'.1, .int .i64 x'.2, .int .i64 y'.1, .int .i64 y'.2, .int .i64 z'.1, .int .i64 z'.2]) (by simp)).at 5 rfl)))))))
  have m2_0 : Own vb0 g5 0 (.int .i64 (subI (mulI y z') (mulI z y')).1) := by rw [hv]; exact (own_far (by dsimp only; omega) (own_far (by dsimp only; omega) (own_far (by dsimp only; omega) (own_far (by dsimp only; omega) (own_far (by dsimp only; omega) (own_far (by dsimp only; omega) ((ku.row (b := g5) (vs := [.int .i64 (subI (mulI y z') (mulI z y')).1, .int .i64 (subI (mulI y z') (mulI z y')).2, .int .i64 (subI (mulI z x') (mulI x z')).1, .int .i64 (subI (mulI z x') (mulI x z')).2, .int .i64 (subI (mulI x y') (mulI y x')).1, .int .i64 (subI (mulI x y') (mulI y x')).2]) (by simp)).at 0 rfl)))))))
  have m2_1 : Own vb0 g5 1 (.int .i64 (subI (mulI y z') (mulI z y')).2) := by rw [hv]; exact (own_far (by dsimp only; omega) (own_far (by dsimp only; omega) (own_far (by dsimp only; omega) (own_far (by dsimp only; omega) (own_far (by dsimp only; omega) (own_far (by dsimp only; omega) ((ku.row (b := g5) (vs := [.int .i64 (subI (mulI y z') (mulI z y')).1, .int .i64 (subI (mulI y z') (mulI z y')).2, .int .i64 (subI (mulI z x') (mulI x z')).1, .int .i64 (subI (mulI z x') (mulI x z')).2, .int .i64 (subI (mulI x y') (mulI y x')).1, .int .i64 (subI (mulI x y') (mulI y x')).2]) (by simp)).at 1 rfl)))))))
  have m2_2 : Own vb0 g5 2 (.int .i64 (subI (mulI z x') (mulI x z')).1) := by rw [hv]; exact (own_far (by dsimp only; omega) (own_far (by dsimp only; omega) (own_far (by dsimp only; omega) (own_far (by dsimp only; omega) (own_far (by dsimp only; omega) (own_far (by dsimp only; omega) ((ku.row (b := g5) (vs := [.int .i64 (subI (mulI y z') (mulI z y')).1, .int .i64 (subI (mulI y z') (mulI z y')).2, .int .i64 (subI (mulI z x') (mulI x z')).1, .int .i64 (subI (mulI z x') (mulI x z')).2, .int .i64 (subI (mulI x y') (mulI y x')).1, .int .i64 (subI (mulI x y') (mulI y x')).2]) (by simp)).at 2 rfl)))))))
  have m2_3 : Own vb0 g5 3 (.int .i64 (subI (mulI z x') (mulI x z')).2) := by rw [hv]; exact (own_far (by dsimp only; omega) (own_far (by dsimp only; omega) (own_far (by dsimp only; omega) (own_far (by dsimp only; omega) (own_far (by dsimp only; omega) (own_far (by dsimp only; omega) ((ku.row (b := g5) (vs := [.int .i64 (subI (mulI y z') (mulI z y')).1, .int .i64 (subI (mulI y z') (mulI z y')).2, .int .i64 (subI (mulI z x') (mulI x z')).1, .int .i64 (subI (mulI z x') (mulI x z')).2, .int .i64 (subI (mulI x y') (mulI y x')).1, .int .i64 (subI (mulI x y') (mulI y x')).2]) (by simp)).at 3 rfl)))))))
  have m2_4 : Own vb0 g5 4 (.int .i64 (subI (mulI x y') (mulI y x')).1) := by rw [hv]; exact (own_far (by dsimp only; omega) (own_far (by dsimp only; omega) (own_far (by dsimp only; omega) (own_far (by dsimp only; omega) (own_far (by dsimp only; omega) (own_far (by dsimp only; omega) ((ku.row (b := g5) (vs := [.int .i64 (subI (mulI y z') (mulI z y')).1, .int .i64 (subI (mulI y z') (mulI z y')).2, .int .i64 (subI (mulI z x') (mulI x z')).1, .int .i64 (subI (mulI z x') (mulI x z')).2, .int .i64 (subI (mulI x y') (mulI y x')).1, .int .i64 (subI (mulI x y') (mulI y x')).2]) (by simp)).at 4 rfl)))))))
  have m2_5 : Own vb0 g5 5 (.int .i64 (subI (mulI x y') (mulI y x')).2) := by rw [hv]; exact (own_far (by dsimp only; omega) (own_far (by dsimp only; omega) (own_far (by dsimp only; omega) (own_far (by dsimp only; omega) (own_far (by dsimp only; omega) (own_far (by dsimp only; omega) ((ku.row (b := g5) (vs := [.int .i64 (subI (mulI y z') (mulI z y')).1, .int .i64 (subI (mulI y z') (mulI z y')).2, .int .i64 (subI (mulI z x') (mulI x z')).1, .int .i64 (subI (mulI z x') (mulI x z')).2, .int .i64 (subI (mulI x y') (mulI y x')).1, .int .i64 (subI (mulI x y') (mulI y x')).2]) (by simp)).at 5 rfl)))))))
  clear hv b6_0 b6_1 b6_2 b6_3 b6_4 b6_5 
  have b6_0 := n6_0
  have b6_1 := n6_1
  have b6_2 := n6_2
  have b6_3 := n6_3
  have b6_4 := n6_4
  have b6_5 := n6_5
  have bk := bn
  clear bn n6_0 n6_1 n6_2 n6_3 n6_4 n6_5
  have r0_0 := m0_0
  have r0_1 := m0_1
  have r0_2 := m0_2
  have r0_3 := m0_3
  have r0_4 := m0_4
  have r0_5 := m0_5
  have r1_0 := m1_0
  have r1_1 := m1_1
  have r1_2 := m1_2
  have r1_3 := m1_3
  have r1_4 := m1_4
  have r1_5 := m1_5
  have r2_0 := m2_0
  have r2_1 := m2_1
  have r2_2 := m2_2
  have r2_3 := m2_3
  have r2_4 := m2_4
  have r2_5 := m2_5
  clear m0_0 m0_1 m0_2 m0_3 m0_4 m0_5 m1_0 m1_1 m1_2 m1_3 m1_4 m1_5 m2_0 m2_1 m2_2 m2_3 m2_4 m2_5
  refine AnyS.done (by kernel_rfl) ?_ _
  have y0 := b6_0.1
  have y1 := b6_1.1
  have y2 := b6_2.1
  have y3 := b6_3.1
  have y4 := b6_4.1
  have y5 := b6_5.1
  have y'0 := r2_0.1
  have y'1 := r2_1.1
  have y'2 := r2_2.1
  have y'3 := r2_3.1
  have y'4 := r2_4.1
  have y'5 := r2_5.1
  clear ku lu lg6 lt0 lt1 lt2 lw k0
  have bsz := bk.size
  go_wp2_with fail
  refine (eqVec_same (subI (mulI y z') (mulI z y')) (subI (mulI z x') (mulI x z')) (subI (mulI x y') (mulI y x')) _).mono ?_
  rintro e w9 ⟨rfl, hb9⟩
  have hs9 : _ ≤ w9.heap.size := hb9.size
  try simp at hs9
  go_wp2
  go_ret
  exact ⟨rfl, belS⟩
end Go.Proofs.Ytmikjgbojknlnaa
