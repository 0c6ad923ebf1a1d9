/- Contract of vector products in the program. Conditions: numbers are int64. -/
import Derived.Test.YtmikjgbojknlnaaVeE
import Derived.Test.YtmikjgbojknlnaaIvD
import Derived.Test.YtmikjgbojknlnaaIvF
import Derived.Deep.DeepCutAuto
import Derived.LoopN
import Derived.Handy
import Derived.Outline
namespace Go.Proofs.Ytmikjgbojknlnaa
open Go.ChangeShapes Go.WideShapes Go.ChangeAt Go.RowKit
set_option linter.unusedVariables false
set_option maxRecDepth 100000
set_option linter.unusedSimpArgs false
set_option maxHeartbeats 1000000
set_option maxHeartbeats 32000000 in
theorem CrossV_any (x y z x' y' z' : Iv) (ox : Ok x) (oy : Ok y) (oz : Ok z) (ox' : Ok x') (oy' : Ok y') (oz' : Ok z') (w : World) : Calls Try.prog 66 #[.agg #[.int .i64 x.1, .int .i64 x.2, .int .i64 y.1, .int .i64 y.2, .int .i64 z.1, .int .i64 z.2], .agg #[.int .i64 x'.1, .int .i64 x'.2, .int .i64 y'.1, .int .i64 y'.2, .int .i64 z'.1, .int .i64 z'.2]] w fun e w' =>
    e = .returned (.agg #[.int .i64 (subI (mulI y z') (mulI z y')).1, .int .i64 (subI (mulI y z') (mulI z y')).2, .int .i64 (subI (mulI z x') (mulI x z')).1, .int .i64 (subI (mulI z x') (mulI x z')).2, .int .i64 (subI (mulI x y') (mulI y x')).1, .int .i64 (subI (mulI x y') (mulI y x')).2]) ∧ Below w.heap.size w w' := by
  have SC0 := Lib.hid (fun w => SubI_any (mulI y z') (mulI z y') w)
  have SC1 := Lib.hid (fun w => SubI_any (mulI z x') (mulI x z') w)
  have SC2 := Lib.hid (fun w => SubI_any (mulI x y') (mulI y x') w)
  generalize subI (mulI y z') (mulI z y') = c0 at *
  generalize subI (mulI z x') (mulI x z') = c1 at *
  generalize subI (mulI x y') (mulI y x') = c2 at *
  go_enter Try.func66, Try.ntmps66
  go_wp2_with fail
  refine wp_loop_rounds 4 ?_
  obtain ⟨w0, hw0⟩ : ∃ q : World, q = ((((w.alloc (.cells #[.int .i64 x.1, .int .i64 x.2, .int .i64 y.1, .int .i64 y.2, .int .i64 z.1, .int .i64 z.2] 52)).alloc (.cells #[.int .i64 x'.1, .int .i64 x'.2, .int .i64 y'.1, .int .i64 y'.2, .int .i64 z'.1, .int .i64 z'.2] 52)).alloc (.cells #[.int .i64 0, .int .i64 0, .int .i64 0, .int .i64 0, .int .i64 0, .int .i64 0] 52)).alloc (.cells #[.int .i64 0, .int .i64 0, .int .i64 0, .int .i64 0, .int .i64 0, .int .i64 0] 99)) := ⟨_, rfl⟩
  rw [← hw0]
  have ra : RowAt w0 (w.heap.size) 0 [.int .i64 x.1, .int .i64 x.2, .int .i64 y.1, .int .i64 y.2, .int .i64 z.1, .int .i64 z.2] := by rw [hw0]; repeat (first | exact row_nil | refine row_cons ⟨by simp [go_sem], by simp [go_sem]⟩ ?_)
  have rb : RowAt w0 (w.heap.size + 1) 0 [.int .i64 x'.1, .int .i64 x'.2, .int .i64 y'.1, .int .i64 y'.2, .int .i64 z'.1, .int .i64 z'.2] := by rw [hw0]; repeat (first | exact row_nil | refine row_cons ⟨by simp [go_sem], by simp [go_sem]⟩ ?_)
  have rr : RowAt w0 (w.heap.size + 1 + 1) 0 [.int .i64 0, .int .i64 0, .int .i64 0, .int .i64 0, .int .i64 0, .int .i64 0] := by rw [hw0]; repeat (first | exact row_nil | refine row_cons ⟨by simp [go_sem], by simp [go_sem]⟩ ?_)
  have rp : RowAt w0 (w.heap.size + 1 + 1 + 1) 0 [.int .i64 0, .int .i64 0, .int .i64 0, .int .i64 0, .int .i64 0, .int .i64 0] := by rw [hw0]; repeat (first | exact row_nil | refine row_cons ⟨by simp [go_sem], by simp [go_sem]⟩ ?_)
  have bw : Below w.heap.size w w0 := by rw [hw0]; exact belS
  clear hw0
  rw [rounds_succ]
  have q0 := (ra.at 0 rfl).1
  have q1 := (ra.at 1 rfl).1
  have q2 := (ra.at 2 rfl).1
  have q3 := (ra.at 3 rfl).1
  have q4 := (ra.at 4 rfl).1
  have q5 := (ra.at 5 rfl).1
  go_wp2_with fail
  clear q0 q1 q2 q3 q4 q5
  refine (across_0 x y z _).mono ?_
  rintro e u1 ⟨g, rfl, lg, hg, hb⟩
  replace ra := (ra).kept hb
  replace rb := (rb).kept hb
  replace rr := (rr).kept hb
  replace rp := (rp).kept hb
  replace bw := (bw).trans (hb.mono (bw).size)
  clear hb
  go_wp2_with fail
  refine (both_0 x y z g _ hg).mono ?_
  rintro e u2 ⟨rfl, hb⟩
  clear hg lg
  replace ra := (ra).kept hb
  replace rb := (rb).kept hb
  replace rr := (rr).kept hb
  replace rp := (rp).kept hb
  replace bw := (bw).trans (hb.mono (bw).size)
  clear hb
  have q0 : ∀ o1 o2 : Obj, ((u2.alloc o1).alloc o2).cell? ⟨w.heap.size + 1, 0, none⟩ = some (.int .i64 x'.1) := fun _ _ => cell_alloc (cell_alloc (rb.at 0 rfl).1)
  have q1 : ∀ o1 o2 : Obj, ((u2.alloc o1).alloc o2).cell? ⟨w.heap.size + 1, 1, none⟩ = some (.int .i64 x'.2) := fun _ _ => cell_alloc (cell_alloc (rb.at 1 rfl).1)
  have q2 : ∀ o1 o2 : Obj, ((u2.alloc o1).alloc o2).cell? ⟨w.heap.size + 1, 2, none⟩ = some (.int .i64 y'.1) := fun _ _ => cell_alloc (cell_alloc (rb.at 2 rfl).1)
  have q3 : ∀ o1 o2 : Obj, ((u2.alloc o1).alloc o2).cell? ⟨w.heap.size + 1, 3, none⟩ = some (.int .i64 y'.2) := fun _ _ => cell_alloc (cell_alloc (rb.at 3 rfl).1)
  have q4 : ∀ o1 o2 : Obj, ((u2.alloc o1).alloc o2).cell? ⟨w.heap.size + 1, 4, none⟩ = some (.int .i64 z'.1) := fun _ _ => cell_alloc (cell_alloc (rb.at 4 rfl).1)
  have q5 : ∀ o1 o2 : Obj, ((u2.alloc o1).alloc o2).cell? ⟨w.heap.size + 1, 5, none⟩ = some (.int .i64 z'.2) := fun _ _ => cell_alloc (cell_alloc (rb.at 5 rfl).1)
  go_wp2_with fail
  clear q0 q1 q2 q3 q4 q5
  have rx : RowAt ((u2.alloc (.cells #[.int .i64 y.1, .int .i64 y.2] 31)).alloc (.cells #[.int .i64 z.1, .int .i64 z.2] 31)) u2.heap.size 0 [.int .i64 y.1, .int .i64 y.2] := by repeat (first | exact row_nil | refine row_cons ⟨by simp [go_sem], by simp [go_sem]⟩ ?_)
  have ry : RowAt ((u2.alloc (.cells #[.int .i64 y.1, .int .i64 y.2] 31)).alloc (.cells #[.int .i64 z.1, .int .i64 z.2] 31)) (u2.heap.size + 1) 0 [.int .i64 z.1, .int .i64 z.2] := by repeat (first | exact row_nil | refine row_cons ⟨by simp [go_sem], by simp [go_sem]⟩ ?_)
  have lp : w.heap.size + 1 + 1 + 1 < u2.heap.size := rp.lt
  refine (across_0 x' y' z' _).mono ?_
  rintro e u3 ⟨g, rfl, lg, hg, hb⟩
  replace rx := rx.kept hb
  replace ry := ry.kept hb
  replace ra := (ra.alloc.alloc).kept hb
  replace rb := (rb.alloc.alloc).kept hb
  replace rr := (rr.alloc.alloc).kept hb
  replace rp := (rp.alloc.alloc).kept hb
  replace bw := ((bw.alloc bw.size _).alloc (bw.alloc bw.size _).size _).trans (hb.mono ((bw.alloc bw.size _).alloc (bw.alloc bw.size _).size _).size)
  clear hb
  go_wp2_with fail
  refine (both_0 x' y' z' g _ hg).mono ?_
  rintro e u4 ⟨rfl, hb⟩
  clear hg lg
  replace rx := rx.kept hb
  replace ry := ry.kept hb
  replace ra := (ra).kept hb
  replace rb := (rb).kept hb
  replace rr := (rr).kept hb
  replace rp := (rp).kept hb
  replace bw := (bw).trans (hb.mono (bw).size)
  clear hb
  go_upto_region 7 with fail
  obtain ⟨U, hU⟩ : ∃ q : World, q = ((u4.alloc (.cells #[.int .i64 y'.1, .int .i64 y'.2] 31)).alloc (.cells #[.int .i64 z'.1, .int .i64 z'.2] 31)) := ⟨_, rfl⟩
  rw [← hU]
  have rz : RowAt U u4.heap.size 0 [.int .i64 y'.1, .int .i64 y'.2] := by rw [hU]; repeat (first | exact row_nil | refine row_cons ⟨by simp [go_sem], by simp [go_sem]⟩ ?_)
  have rv : RowAt U (u4.heap.size + 1) 0 [.int .i64 z'.1, .int .i64 z'.2] := by rw [hU]; repeat (first | exact row_nil | refine row_cons ⟨by simp [go_sem], by simp [go_sem]⟩ ?_)
  have l2 : u2.heap.size + 1 < u4.heap.size := ry.lt
  replace rx := RowAt.alloc2 hU rx
  replace ry := RowAt.alloc2 hU ry
  replace ra := RowAt.alloc2 hU ra
  replace rb := RowAt.alloc2 hU rb
  replace rr := RowAt.alloc2 hU rr
  replace rp := RowAt.alloc2 hU rp
  replace bw : Below w.heap.size w U := by rw [hU]; exact (bw.alloc bw.size _).alloc (bw.alloc bw.size _).size _
  clear hU
  refine AnyS.enter (K := RowsK w [(u2.heap.size, [.int .i64 y.1, .int .i64 y.2]), (u2.heap.size + 1, [.int .i64 z.1, .int .i64 z.2]), (u4.heap.size, [.int .i64 y'.1, .int .i64 y'.2]), (u4.heap.size + 1, [.int .i64 z'.1, .int .i64 z'.2]), (w.heap.size, [.int .i64 x.1, .int .i64 x.2, .int .i64 y.1, .int .i64 y.2, .int .i64 z.1, .int .i64 z.2]), (w.heap.size + 1, [.int .i64 x'.1, .int .i64 x'.2, .int .i64 y'.1, .int .i64 y'.2, .int .i64 z'.1, .int .i64 z'.2]), (w.heap.size + 1 + 1, [.int .i64 0, .int .i64 0, .int .i64 0, .int .i64 0, .int .i64 0, .int .i64 0]), (w.heap.size + 1 + 1 + 1, [.int .i64 0, .int .i64 0, .int .i64 0, .int .i64 0, .int .i64 0, .int .i64 0])] (fun _ => True)) (s := 9) (by kernel_rfl) ⟨?_, trivial, belS⟩ ?_
  · intro r hr
    simp only [List.mem_cons, List.not_mem_nil, or_false] at hr
    rcases hr with rfl | rfl | rfl | rfl | rfl | rfl | rfl | rfl
    all_goals (dsimp only; repeat (first | (with_reducible assumption) | (with_reducible exact RowAt.drew (by assumption)) | exact row_nil | refine row_cons (by first | (with_reducible assumption) | (with_reducible exact own_drew (by assumption)) | exact ⟨by simp [go_sem], by simp [go_sem]⟩) ?_))
  intro wd k0
  have lw : w.heap.size ≤ wd.heap.size := k0.2.2.size
  have lt0 : u2.heap.size < wd.heap.size := World.block_lt_of_cell? _ _ (((k0.row (b := u2.heap.size) (vs := [.int .i64 y.1, .int .i64 y.2]) (by simp)).at 0 rfl).1)
  have lt1 : u2.heap.size + 1 < wd.heap.size := World.block_lt_of_cell? _ _ (((k0.row (b := u2.heap.size + 1) (vs := [.int .i64 z.1, .int .i64 z.2]) (by simp)).at 0 rfl).1)
  have lt2 : u4.heap.size < wd.heap.size := World.block_lt_of_cell? _ _ (((k0.row (b := u4.heap.size) (vs := [.int .i64 y'.1, .int .i64 y'.2]) (by simp)).at 0 rfl).1)
  have lt3 : u4.heap.size + 1 < wd.heap.size := World.block_lt_of_cell? _ _ (((k0.row (b := u4.heap.size + 1) (vs := [.int .i64 z'.1, .int .i64 z'.2]) (by simp)).at 0 rfl).1)
  have lt4 : w.heap.size < wd.heap.size := World.block_lt_of_cell? _ _ (((k0.row (b := w.heap.size) (vs := [.int .i64 x.1, .int .i64 x.2, .int .i64 y.1, .int .i64 y.2, .int .i64 z.1, .int .i64 z.2]) (by simp)).at 0 rfl).1)
  have lt5 : w.heap.size + 1 < wd.heap.size := World.block_lt_of_cell? _ _ (((k0.row (b := w.heap.size + 1) (vs := [.int .i64 x'.1, .int .i64 x'.2, .int .i64 y'.1, .int .i64 y'.2, .int .i64 z'.1, .int .i64 z'.2]) (by simp)).at 0 rfl).1)
  have lt6 : w.heap.size + 1 + 1 < wd.heap.size := World.block_lt_of_cell? _ _ (((k0.row (b := w.heap.size + 1 + 1) (vs := [.int .i64 0, .int .i64 0, .int .i64 0, .int .i64 0, .int .i64 0, .int .i64 0]) (by simp)).at 0 rfl).1)
  have lt7 : w.heap.size + 1 + 1 + 1 < wd.heap.size := World.block_lt_of_cell? _ _ (((k0.row (b := w.heap.size + 1 + 1 + 1) (vs := [.int .i64 0, .int .i64 0, .int .i64 0, .int .i64 0, .int .i64 0, .int .i64 0]) (by simp)).at 0 rfl).1)
  refine AnyS.take (i := 0) (v := .int .i64 0) (T := fun _ => True) [] rfl (by kernel_rfl) (by kernel_rfl) (by kernel_rfl) (by kernel_rfl) (by kernel_rfl) (fun _ _ _ h => h) (fun L u q h => trivial) (fun L u h => OneS.less (by decide) h) (Or.inl ⟨by rfl, ?_⟩) (fun _ => k0) ?_
  · intro u hu
    clear hu
    go_simp
  try simp only [Act.put, List.getElem_toArray, List.getElem_cons_zero, List.getElem_cons_succ, List.setIfInBounds_toArray, List.set_cons_zero, List.set_cons_succ]
  refine AnyS.take (i := 1) (v := .agg #[.int .i64 y.1, .int .i64 y.2]) (T := RowsK w [(u2.heap.size, [.int .i64 y.1, .int .i64 y.2]), (u2.heap.size + 1, [.int .i64 z.1, .int .i64 z.2]), (u4.heap.size, [.int .i64 y'.1, .int .i64 y'.2]), (u4.heap.size + 1, [.int .i64 z'.1, .int .i64 z'.2]), (w.heap.size, [.int .i64 x.1, .int .i64 x.2, .int .i64 y.1, .int .i64 y.2, .int .i64 z.1, .int .i64 z.2]), (w.heap.size + 1, [.int .i64 x'.1, .int .i64 x'.2, .int .i64 y'.1, .int .i64 y'.2, .int .i64 z'.1, .int .i64 z'.2]), (w.heap.size + 1 + 1, [.int .i64 0, .int .i64 0, .int .i64 0, .int .i64 0, .int .i64 0, .int .i64 0]), (w.heap.size + 1 + 1 + 1, [.int .i64 0, .int .i64 0, .int .i64 0, .int .i64 0, .int .i64 0, .int .i64 0])] (fun _ => True)) [9] rfl (by kernel_rfl) (by kernel_rfl) (by kernel_rfl) (by kernel_rfl) (by kernel_rfl) (fun _ _ _ h => h) (fun L u q h => h (q 9 (by simp))) (fun L u h => OneS.less (by decide) h) (Or.inl ⟨by rfl, ?_⟩) (fun _ => k0) ?_
  · intro u hu
    have hr0 : RowAt u u2.heap.size 0 [.int .i64 y.1, .int .i64 y.2] := hu.row (by simp)
    have c0_0 := (hr0.at 0 rfl).1
    have c0_1 := (hr0.at 1 rfl).1
    have hr1 : RowAt u (u2.heap.size + 1) 0 [.int .i64 z.1, .int .i64 z.2] := hu.row (by simp)
    have c1_0 := (hr1.at 0 rfl).1
    have c1_1 := (hr1.at 1 rfl).1
    have hr2 : RowAt u u4.heap.size 0 [.int .i64 y'.1, .int .i64 y'.2] := hu.row (by simp)
    have c2_0 := (hr2.at 0 rfl).1
    have c2_1 := (hr2.at 1 rfl).1
    have hr3 : RowAt u (u4.heap.size + 1) 0 [.int .i64 z'.1, .int .i64 z'.2] := hu.row (by simp)
    have c3_0 := (hr3.at 0 rfl).1
    have c3_1 := (hr3.at 1 rfl).1
    have hr4 : RowAt u w.heap.size 0 [.int .i64 x.1, .int .i64 x.2, .int .i64 y.1, .int .i64 y.2, .int .i64 z.1, .int .i64 z.2] := hu.row (by simp)
    have c4_0 := (hr4.at 0 rfl).1
    have c4_1 := (hr4.at 1 rfl).1
    have c4_2 := (hr4.at 2 rfl).1
    have c4_3 := (hr4.at 3 rfl).1
    have c4_4 := (hr4.at 4 rfl).1
    have c4_5 := (hr4.at 5 rfl).1
    have hr5 : RowAt u (w.heap.size + 1) 0 [.int .i64 x'.1, .int .i64 x'.2, .int .i64 y'.1, .int .i64 y'.2, .int .i64 z'.1, .int .i64 z'.2] := hu.row (by simp)
    have c5_0 := (hr5.at 0 rfl).1
    have c5_1 := (hr5.at 1 rfl).1
    have c5_2 := (hr5.at 2 rfl).1
    have c5_3 := (hr5.at 3 rfl).1
    have c5_4 := (hr5.at 4 rfl).1
    have c5_5 := (hr5.at 5 rfl).1
    have hr6 : RowAt u (w.heap.size + 1 + 1) 0 [.int .i64 0, .int .i64 0, .int .i64 0, .int .i64 0, .int .i64 0, .int .i64 0] := hu.row (by simp)
    have c6_0 := (hr6.at 0 rfl).1
    have c6_1 := (hr6.at 1 rfl).1
    have c6_2 := (hr6.at 2 rfl).1
    have c6_3 := (hr6.at 3 rfl).1
    have c6_4 := (hr6.at 4 rfl).1
    have c6_5 := (hr6.at 5 rfl).1
    have hr7 : RowAt u (w.heap.size + 1 + 1 + 1) 0 [.int .i64 0, .int .i64 0, .int .i64 0, .int .i64 0, .int .i64 0, .int .i64 0] := hu.row (by simp)
    have c7_0 := (hr7.at 0 rfl).1
    have c7_1 := (hr7.at 1 rfl).1
    have c7_2 := (hr7.at 2 rfl).1
    have c7_3 := (hr7.at 3 rfl).1
    have c7_4 := (hr7.at 4 rfl).1
    have c7_5 := (hr7.at 5 rfl).1
    clear hu
    go_simp
  try simp only [Act.put, List.getElem_toArray, List.getElem_cons_zero, List.getElem_cons_succ, List.setIfInBounds_toArray, List.set_cons_zero, List.set_cons_succ]
  refine AnyS.take (i := 2) (v := .agg #[.int .i64 z'.1, .int .i64 z'.2]) (T := RowsK w [(u2.heap.size, [.int .i64 y.1, .int .i64 y.2]), (u2.heap.size + 1, [.int .i64 z.1, .int .i64 z.2]), (u4.heap.size, [.int .i64 y'.1, .int .i64 y'.2]), (u4.heap.size + 1, [.int .i64 z'.1, .int .i64 z'.2]), (w.heap.size, [.int .i64 x.1, .int .i64 x.2, .int .i64 y.1, .int .i64 y.2, .int .i64 z.1, .int .i64 z.2]), (w.heap.size + 1, [.int .i64 x'.1, .int .i64 x'.2, .int .i64 y'.1, .int .i64 y'.2, .int .i64 z'.1, .int .i64 z'.2]), (w.heap.size + 1 + 1, [.int .i64 0, .int .i64 0, .int .i64 0, .int .i64 0, .int .i64 0, .int .i64 0]), (w.heap.size + 1 + 1 + 1, [.int .i64 0, .int .i64 0, .int .i64 0, .int .i64 0, .int .i64 0, .int .i64 0])] (fun _ => True)) [9] rfl (by kernel_rfl) (by kernel_rfl) (by kernel_rfl) (by kernel_rfl) (by kernel_rfl) (fun _ _ _ h => h) (fun L u q h => h (q 9 (by simp))) (fun L u h => OneS.less (by decide) h) (Or.inl ⟨by rfl, ?_⟩) (fun _ => k0) ?_
  · intro u hu
    have hr0 : RowAt u u2.heap.size 0 [.int .i64 y.1, .int .i64 y.2] := hu.row (by simp)
    have c0_0 := (hr0.at 0 rfl).1
    have c0_1 := (hr0.at 1 rfl).1
    have hr1 : RowAt u (u2.heap.size + 1) 0 [.int .i64 z.1, .int .i64 z.2] := hu.row (by simp)
    have c1_0 := (hr1.at 0 rfl).1
    have c1_1 := (hr1.at 1 rfl).1
    have hr2 : RowAt u u4.heap.size 0 [.int .i64 y'.1, .int .i64 y'.2] := hu.row (by simp)
    have c2_0 := (hr2.at 0 rfl).1
    have c2_1 := (hr2.at 1 rfl).1
    have hr3 : RowAt u (u4.heap.size + 1) 0 [.int .i64 z'.1, .int .i64 z'.2] := hu.row (by simp)
    have c3_0 := (hr3.at 0 rfl).1
    have c3_1 := (hr3.at 1 rfl).1
    have hr4 : RowAt u w.heap.size 0 [.int .i64 x.1, .int .i64 x.2, .int .i64 y.1, .int .i64 y.2, .int .i64 z.1, .int .i64 z.2] := hu.row (by simp)
    have c4_0 := (hr4.at 0 rfl).1
    have c4_1 := (hr4.at 1 rfl).1
    have c4_2 := (hr4.at 2 rfl).1
    have c4_3 := (hr4.at 3 rfl).1
    have c4_4 := (hr4.at 4 rfl).1
    have c4_5 := (hr4.at 5 rfl).1
    have hr5 : RowAt u (w.heap.size + 1) 0 [.int .i64 x'.1, .int .i64 x'.2, .int .i64 y'.1, .int .i64 y'.2, .int .i64 z'.1, .int .i64 z'.2] := hu.row (by simp)
    have c5_0 := (hr5.at 0 rfl).1
    have c5_1 := (hr5.at 1 rfl).1
    have c5_2 := (hr5.at 2 rfl).1
    have c5_3 := (hr5.at 3 rfl).1
    have c5_4 := (hr5.at 4 rfl).1
    have c5_5 := (hr5.at 5 rfl).1
    have hr6 : RowAt u (w.heap.size + 1 + 1) 0 [.int .i64 0, .int .i64 0, .int .i64 0, .int .i64 0, .int .i64 0, .int .i64 0] := hu.row (by simp)
    have c6_0 := (hr6.at 0 rfl).1
    have c6_1 := (hr6.at 1 rfl).1
    have c6_2 := (hr6.at 2 rfl).1
    have c6_3 := (hr6.at 3 rfl).1
    have c6_4 := (hr6.at 4 rfl).1
    have c6_5 := (hr6.at 5 rfl).1
    have hr7 : RowAt u (w.heap.size + 1 + 1 + 1) 0 [.int .i64 0, .int .i64 0, .int .i64 0, .int .i64 0, .int .i64 0, .int .i64 0] := hu.row (by simp)
    have c7_0 := (hr7.at 0 rfl).1
    have c7_1 := (hr7.at 1 rfl).1
    have c7_2 := (hr7.at 2 rfl).1
    have c7_3 := (hr7.at 3 rfl).1
    have c7_4 := (hr7.at 4 rfl).1
    have c7_5 := (hr7.at 5 rfl).1
    clear hu
    go_simp
  try simp only [Act.put, List.getElem_toArray, List.getElem_cons_zero, List.getElem_cons_succ, List.setIfInBounds_toArray, List.set_cons_zero, List.set_cons_succ]
  refine AnyS.take (i := 4) (v := .agg #[.int .i64 z.1, .int .i64 z.2]) (T := RowsK w [(u2.heap.size, [.int .i64 y.1, .int .i64 y.2]), (u2.heap.size + 1, [.int .i64 z.1, .int .i64 z.2]), (u4.heap.size, [.int .i64 y'.1, .int .i64 y'.2]), (u4.heap.size + 1, [.int .i64 z'.1, .int .i64 z'.2]), (w.heap.size, [.int .i64 x.1, .int .i64 x.2, .int .i64 y.1, .int .i64 y.2, .int .i64 z.1, .int .i64 z.2]), (w.heap.size + 1, [.int .i64 x'.1, .int .i64 x'.2, .int .i64 y'.1, .int .i64 y'.2, .int .i64 z'.1, .int .i64 z'.2]), (w.heap.size + 1 + 1, [.int .i64 0, .int .i64 0, .int .i64 0, .int .i64 0, .int .i64 0, .int .i64 0]), (w.heap.size + 1 + 1 + 1, [.int .i64 0, .int .i64 0, .int .i64 0, .int .i64 0, .int .i64 0, .int .i64 0])] (fun _ => True)) [9] rfl (by kernel_rfl) (by kernel_rfl) (by kernel_rfl) (by kernel_rfl) (by kernel_rfl) (fun _ _ _ h => h) (fun L u q h => h (q 9 (by simp))) (fun L u h => OneS.less (by decide) h) (Or.inl ⟨by rfl, ?_⟩) (fun _ => k0) ?_
  · intro u hu
    have hr0 : RowAt u u2.heap.size 0 [.int .i64 y.1, .int .i64 y.2] := hu.row (by simp)
    have c0_0 := (hr0.at 0 rfl).1
    have c0_1 := (hr0.at 1 rfl).1
    have hr1 : RowAt u (u2.heap.size + 1) 0 [.int .i64 z.1, .int .i64 z.2] := hu.row (by simp)
    have c1_0 := (hr1.at 0 rfl).1
    have c1_1 := (hr1.at 1 rfl).1
    have hr2 : RowAt u u4.heap.size 0 [.int .i64 y'.1, .int .i64 y'.2] := hu.row (by simp)
    have c2_0 := (hr2.at 0 rfl).1
    have c2_1 := (hr2.at 1 rfl).1
    have hr3 : RowAt u (u4.heap.size + 1) 0 [.int .i64 z'.1, .int .i64 z'.2] := hu.row (by simp)
    have c3_0 := (hr3.at 0 rfl).1
    have c3_1 := (hr3.at 1 rfl).1
    have hr4 : RowAt u w.heap.size 0 [.int .i64 x.1, .int .i64 x.2, .int .i64 y.1, .int .i64 y.2, .int .i64 z.1, .int .i64 z.2] := hu.row (by simp)
    have c4_0 := (hr4.at 0 rfl).1
    have c4_1 := (hr4.at 1 rfl).1
    have c4_2 := (hr4.at 2 rfl).1
    have c4_3 := (hr4.at 3 rfl).1
    have c4_4 := (hr4.at 4 rfl).1
    have c4_5 := (hr4.at 5 rfl).1
    have hr5 : RowAt u (w.heap.size + 1) 0 [.int .i64 x'.1, .int .i64 x'.2, .int .i64 y'.1, .int .i64 y'.2, .int .i64 z'.1, .int .i64 z'.2] := hu.row (by simp)
    have c5_0 := (hr5.at 0 rfl).1
    have c5_1 := (hr5.at 1 rfl).1
    have c5_2 := (hr5.at 2 rfl).1
    have c5_3 := (hr5.at 3 rfl).1
    have c5_4 := (hr5.at 4 rfl).1
    have c5_5 := (hr5.at 5 rfl).1
    have hr6 : RowAt u (w.heap.size + 1 + 1) 0 [.int .i64 0, .int .i64 0, .int .i64 0, .int .i64 0, .int .i64 0, .int .i64 0] := hu.row (by simp)
    have c6_0 := (hr6.at 0 rfl).1
    have c6_1 := (hr6.at 1 rfl).1
    have c6_2 := (hr6.at 2 rfl).1
    have c6_3 := (hr6.at 3 rfl).1
    have c6_4 := (hr6.at 4 rfl).1
    have c6_5 := (hr6.at 5 rfl).1
    have hr7 : RowAt u (w.heap.size + 1 + 1 + 1) 0 [.int .i64 0, .int .i64 0, .int .i64 0, .int .i64 0, .int .i64 0, .int .i64 0] := hu.row (by simp)
    have c7_0 := (hr7.at 0 rfl).1
    have c7_1 := (hr7.at 1 rfl).1
    have c7_2 := (hr7.at 2 rfl).1
    have c7_3 := (hr7.at 3 rfl).1
    have c7_4 := (hr7.at 4 rfl).1
    have c7_5 := (hr7.at 5 rfl).1
    clear hu
    go_simp
  try simp only [Act.put, List.getElem_toArray, List.getElem_cons_zero, List.getElem_cons_succ, List.setIfInBounds_toArray, List.set_cons_zero, List.set_cons_succ]
  refine AnyS.take (i := 5) (v := .agg #[.int .i64 y'.1, .int .i64 y'.2]) (T := RowsK w [(u2.heap.size, [.int .i64 y.1, .int .i64 y.2]), (u2.heap.size + 1, [.int .i64 z.1, .int .i64 z.2]), (u4.heap.size, [.int .i64 y'.1, .int .i64 y'.2]), (u4.heap.size + 1, [.int .i64 z'.1, .int .i64 z'.2]), (w.heap.size, [.int .i64 x.1, .int .i64 x.2, .int .i64 y.1, .int .i64 y.2, .int .i64 z.1, .int .i64 z.2]), (w.heap.size + 1, [.int .i64 x'.1, .int .i64 x'.2, .int .i64 y'.1, .int .i64 y'.2, .int .i64 z'.1, .int .i64 z'.2]), (w.heap.size + 1 + 1, [.int .i64 0, .int .i64 0, .int .i64 0, .int .i64 0, .int .i64 0, .int .i64 0]), (w.heap.size + 1 + 1 + 1, [.int .i64 0, .int .i64 0, .int .i64 0, .int .i64 0, .int .i64 0, .int .i64 0])] (fun _ => True)) [9] rfl (by kernel_rfl) (by kernel_rfl) (by kernel_rfl) (by kernel_rfl) (by kernel_rfl) (fun _ _ _ h => h) (fun L u q h => h (q 9 (by simp))) (fun L u h => OneS.less (by decide) h) (Or.inl ⟨by rfl, ?_⟩) (fun _ => k0) ?_
  · intro u hu
    have hr0 : RowAt u u2.heap.size 0 [.int .i64 y.1, .int .i64 y.2] := hu.row (by simp)
    have c0_0 := (hr0.at 0 rfl).1
    have c0_1 := (hr0.at 1 rfl).1
    have hr1 : RowAt u (u2.heap.size + 1) 0 [.int .i64 z.1, .int .i64 z.2] := hu.row (by simp)
    have c1_0 := (hr1.at 0 rfl).1
    have c1_1 := (hr1.at 1 rfl).1
    have hr2 : RowAt u u4.heap.size 0 [.int .i64 y'.1, .int .i64 y'.2] := hu.row (by simp)
    have c2_0 := (hr2.at 0 rfl).1
    have c2_1 := (hr2.at 1 rfl).1
    have hr3 : RowAt u (u4.heap.size + 1) 0 [.int .i64 z'.1, .int .i64 z'.2] := hu.row (by simp)
    have c3_0 := (hr3.at 0 rfl).1
    have c3_1 := (hr3.at 1 rfl).1
    have hr4 : RowAt u w.heap.size 0 [.int .i64 x.1, .int .i64 x.2, .int .i64 y.1, .int .i64 y.2, .int .i64 z.1, .int .i64 z.2] := hu.row (by simp)
    have c4_0 := (hr4.at 0 rfl).1
    have c4_1 := (hr4.at 1 rfl).1
    have c4_2 := (hr4.at 2 rfl).1
    have c4_3 := (hr4.at 3 rfl).1
    have c4_4 := (hr4.at 4 rfl).1
    have c4_5 := (hr4.at 5 rfl).1
    have hr5 : RowAt u (w.heap.size + 1) 0 [.int .i64 x'.1, .int .i64 x'.2, .int .i64 y'.1, .int .i64 y'.2, .int .i64 z'.1, .int .i64 z'.2] := hu.row (by simp)
    have c5_0 := (hr5.at 0 rfl).1
    have c5_1 := (hr5.at 1 rfl).1
    have c5_2 := (hr5.at 2 rfl).1
    have c5_3 := (hr5.at 3 rfl).1
    have c5_4 := (hr5.at 4 rfl).1
    have c5_5 := (hr5.at 5 rfl).1
    have hr6 : RowAt u (w.heap.size + 1 + 1) 0 [.int .i64 0, .int .i64 0, .int .i64 0, .int .i64 0, .int .i64 0, .int .i64 0] := hu.row (by simp)
    have c6_0 := (hr6.at 0 rfl).1
    have c6_1 := (hr6.at 1 rfl).1
    have c6_2 := (hr6.at 2 rfl).1
    have c6_3 := (hr6.at 3 rfl).1
    have c6_4 := (hr6.at 4 rfl).1
    have c6_5 := (hr6.at 5 rfl).1
    have hr7 : RowAt u (w.heap.size + 1 + 1 + 1) 0 [.int .i64 0, .int .i64 0, .int .i64 0, .int .i64 0, .int .i64 0, .int .i64 0] := hu.row (by simp)
    have c7_0 := (hr7.at 0 rfl).1
    have c7_1 := (hr7.at 1 rfl).1
    have c7_2 := (hr7.at 2 rfl).1
    have c7_3 := (hr7.at 3 rfl).1
    have c7_4 := (hr7.at 4 rfl).1
    have c7_5 := (hr7.at 5 rfl).1
    clear hu
    go_simp
  try simp only [Act.put, List.getElem_toArray, List.getElem_cons_zero, List.getElem_cons_succ, List.setIfInBounds_toArray, List.set_cons_zero, List.set_cons_succ]
  refine AnyS.std (n := 2) [(3, 31, .agg #[.int .i64 (mulI y z').1, .int .i64 (mulI y z').2]), (6, 34, .agg #[.int .i64 (mulI z y').1, .int .i64 (mulI z y').2]), (7, 35, .agg #[.int .i64 c0.1, .int .i64 c0.2])] [] (RowsK w [(u2.heap.size, [.int .i64 y.1, .int .i64 y.2]), (u2.heap.size + 1, [.int .i64 z.1, .int .i64 z.2]), (u4.heap.size, [.int .i64 y'.1, .int .i64 y'.2]), (u4.heap.size + 1, [.int .i64 z'.1, .int .i64 z'.2]), (w.heap.size, [.int .i64 x.1, .int .i64 x.2, .int .i64 y.1, .int .i64 y.2, .int .i64 z.1, .int .i64 z.2]), (w.heap.size + 1, [.int .i64 x'.1, .int .i64 x'.2, .int .i64 y'.1, .int .i64 y'.2, .int .i64 z'.1, .int .i64 z'.2]), (w.heap.size + 1 + 1, [.int .i64 0, .int .i64 0, .int .i64 0, .int .i64 0, .int .i64 0, .int .i64 0]), (w.heap.size + 1 + 1 + 1, [.int .i64 0, .int .i64 0, .int .i64 0, .int .i64 0, .int .i64 0, .int .i64 0])] (fun _ => True)) (wd.heap.size) (fun u u' h hb => h.kept (fun _ _ h _ => h) hb) (by kernel_rfl) (by kernel_rfl) (by kernel_rfl) (by kernel_rfl) (fun u L h _ => h) k0 (Nat.le_refl _) ?_ ?_ ?_
  · intro c hc t u ku lu hp
    simp only [List.mem_cons, List.not_mem_nil, or_false] at hc
    rcases hc with rfl | rfl | rfl
    · clear hp
      simp only [LatC.op, LatC.dst, LatC.val, LatB.op, LatB.dst, LatB.zs, LatB.ty, List.map, List.cons_append, List.nil_append, putA, Act.put, List.setIfInBounds_toArray, List.set_cons_zero, List.set_cons_succ]
      refine wpOp_step rfl (fun K' hK' => ?_)
      have hK := Lib.hid hK'
      clear hK'
      go_simp
      with_reducible refine (MulI_any y z' oy oz' _).mono ?_
      rintro _ u1 ⟨rfl, hb1⟩
      go_wp2_with fail
      exact hK.out _ _ ⟨rfl, hb1⟩
    · clear hp
      simp only [LatC.op, LatC.dst, LatC.val, LatB.op, LatB.dst, LatB.zs, LatB.ty, List.map, List.cons_append, List.nil_append, putA, Act.put, List.setIfInBounds_toArray, List.set_cons_zero, List.set_cons_succ]
      refine wpOp_step rfl (fun K' hK' => ?_)
      have hK := Lib.hid hK'
      clear hK'
      go_simp
      with_reducible refine (MulI_any z y' oz oy' _).mono ?_
      rintro _ u1 ⟨rfl, hb1⟩
      go_wp2_with fail
      exact hK.out _ _ ⟨rfl, hb1⟩
    · have q31 : t 31 = .agg #[.int .i64 (mulI y z').1, .int .i64 (mulI y z').2] := hp (3, 31, .agg #[.int .i64 (mulI y z').1, .int .i64 (mulI y z').2]) (by simp) (by kernel_rfl)
      have q34 : t 34 = .agg #[.int .i64 (mulI z y').1, .int .i64 (mulI z y').2] := hp (6, 34, .agg #[.int .i64 (mulI z y').1, .int .i64 (mulI z y').2]) (by simp) (by kernel_rfl)
      clear hp
      simp only [LatC.op, LatC.dst, LatC.val, LatB.op, LatB.dst, LatB.zs, LatB.ty, List.map, List.cons_append, List.nil_append, putA, Act.put, List.setIfInBounds_toArray, List.set_cons_zero, List.set_cons_succ]
      simp only [q31]
      simp only [q34]
      refine wpOp_step rfl (fun K' hK' => ?_)
      have hK := Lib.hid hK'
      clear hK'
      go_simp
      with_reducible refine (SC0.out _).mono ?_
      rintro _ u1 ⟨rfl, hb1⟩
      go_wp2_with fail
      exact hK.out _ _ ⟨rfl, hb1⟩
  · intro b hb; cases hb
  intro t u g ku lu hcs hbs hne
  have t31 : t 31 = .agg #[.int .i64 (mulI y z').1, .int .i64 (mulI y z').2] := hcs (3, 31, .agg #[.int .i64 (mulI y z').1, .int .i64 (mulI y z').2]) (by simp)
  have t34 : t 34 = .agg #[.int .i64 (mulI z y').1, .int .i64 (mulI z y').2] := hcs (6, 34, .agg #[.int .i64 (mulI z y').1, .int .i64 (mulI z y').2]) (by simp)
  have t35 : t 35 = .agg #[.int .i64 c0.1, .int .i64 c0.2] := hcs (7, 35, .agg #[.int .i64 c0.1, .int .i64 c0.2]) (by simp)
  clear hcs hbs hne
  simp only [LatC.op, LatC.dst, LatC.val, LatB.op, LatB.dst, LatB.zs, LatB.ty, List.map, List.cons_append, List.nil_append, setL, if_true, putA, Act.put, List.setIfInBounds_toArray, List.set_cons_zero, List.set_cons_succ, t31, t34, t35]
  clear t31 t34 t35
  refine AnyS.take (i := 8) (v := .pointer (some ⟨w.heap.size + 1 + 1 + 1, 0, none⟩)) (T := fun _ => True) [] rfl (by kernel_rfl) (by kernel_rfl) (by kernel_rfl) (by kernel_rfl) (by kernel_rfl) (fun _ _ _ h => h) (fun L u q h => trivial) (fun L u h => OneS.less (by decide) h) (Or.inl ⟨by rfl, ?_⟩) (fun _ => ku) ?_
  · intro u hu
    clear hu
    go_simp
  try simp only [Act.put, List.getElem_toArray, List.getElem_cons_zero, List.getElem_cons_succ, List.setIfInBounds_toArray, List.set_cons_zero, List.set_cons_succ]
  have rp : RowAt u (w.heap.size + 1 + 1 + 1) 0 [.int .i64 0, .int .i64 0, .int .i64 0, .int .i64 0, .int .i64 0, .int .i64 0] := ku.row (by simp)
  have ra : RowAt u (w.heap.size) 0 [.int .i64 x.1, .int .i64 x.2, .int .i64 y.1, .int .i64 y.2, .int .i64 z.1, .int .i64 z.2] := ku.row (by simp)
  have rb : RowAt u (w.heap.size + 1) 0 [.int .i64 x'.1, .int .i64 x'.2, .int .i64 y'.1, .int .i64 y'.2, .int .i64 z'.1, .int .i64 z'.2] := ku.row (by simp)
  have rr : RowAt u (w.heap.size + 1 + 1) 0 [.int .i64 0, .int .i64 0, .int .i64 0, .int .i64 0, .int .i64 0, .int .i64 0] := ku.row (by simp)
  have bw := ku.2.2
  have sc0 := (rp.at 0 rfl).1
  have sc1 := (rp.at 1 rfl).1
  have sf0 := (rp.at 0 rfl).2
  have sf1 := (rp.at 1 rfl).2
  refine AnyS.one (i := 9) (by kernel_rfl) (AnyS.comes rfl (fun K hK => ?_))
  go_simp
  refine hK.out _ _ (fun h => absurd h (by decide)) ?_
  clear hK K
  try simp only [Act.put, List.getElem_toArray, List.getElem_cons_zero, List.getElem_cons_succ, List.setIfInBounds_toArray, List.set_cons_zero, List.set_cons_succ]
  refine AnyS.done (by kernel_rfl) ?_ _
  clear sc0 sc1 sf0 sf1 ku lu k0 lw lt0 lt1 lt2 lt3 lt4 lt5 lt6 lt7 lp l2
  go_wp2_with fail
  obtain ⟨v0, hv⟩ : ∃ q : World, q = (u.setCell ⟨w.heap.size + 1 + 1 + 1, 0, none⟩ (.int .i64 c0.1)).setCell ⟨w.heap.size + 1 + 1 + 1, 1, none⟩ (.int .i64 c0.2) := ⟨_, rfl⟩
  rw [← hv]
  replace rp : RowAt v0 (w.heap.size + 1 + 1 + 1) 0 [.int .i64 c0.1, .int .i64 c0.2, .int .i64 0, .int .i64 0, .int .i64 0, .int .i64 0] := by rw [hv]; exact (row_cons (own_next (by decide) (own_put (rp.at 0 rfl))) (row_cons (own_put (own_next (by decide) (rp.at 1 rfl))) (row_cons (own_next (by decide) (own_next (by decide) (rp.at 2 rfl))) (row_cons (own_next (by decide) (own_next (by decide) (rp.at 3 rfl))) (row_cons (own_next (by decide) (own_next (by decide) (rp.at 4 rfl))) (row_cons (own_next (by decide) (own_next (by decide) (rp.at 5 rfl))) row_nil))))))
  replace ra := RowAt.set2 hv (by dsimp only; omega) (by dsimp only; omega) ra
  replace rb := RowAt.set2 hv (by dsimp only; omega) (by dsimp only; omega) rb
  replace rr := RowAt.set2 hv (by dsimp only; omega) (by dsimp only; omega) rr
  replace bw : Below w.heap.size w v0 := by rw [hv]; exact (bw.setCell (by dsimp only; omega) _).setCell (by dsimp only; omega) _
  clear hv
  rw [rounds_succ]
  have q0 := (ra.at 0 rfl).1
  have q1 := (ra.at 1 rfl).1
  have q2 := (ra.at 2 rfl).1
  have q3 := (ra.at 3 rfl).1
  have q4 := (ra.at 4 rfl).1
  have q5 := (ra.at 5 rfl).1
  go_wp2_with fail
  clear q0 q1 q2 q3 q4 q5
  refine (across_1 x y z _).mono ?_
  rintro e u1 ⟨g, rfl, lg, hg, hb⟩
  replace ra := (ra).kept hb
  replace rb := (rb).kept hb
  replace rr := (rr).kept hb
  replace rp := (rp).kept hb
  replace bw := (bw).trans (hb.mono (bw).size)
  clear hb
  go_wp2_with fail
  refine (both_1 x y z g _ hg).mono ?_
  rintro e u2 ⟨rfl, hb⟩
  clear hg lg
  replace ra := (ra).kept hb
  replace rb := (rb).kept hb
  replace rr := (rr).kept hb
  replace rp := (rp).kept hb
  replace bw := (bw).trans (hb.mono (bw).size)
  clear hb
  have q0 : ∀ o1 o2 : Obj, ((u2.alloc o1).alloc o2).cell? ⟨w.heap.size + 1, 0, none⟩ = some (.int .i64 x'.1) := fun _ _ => cell_alloc (cell_alloc (rb.at 0 rfl).1)
  have q1 : ∀ o1 o2 : Obj, ((u2.alloc o1).alloc o2).cell? ⟨w.heap.size + 1, 1, none⟩ = some (.int .i64 x'.2) := fun _ _ => cell_alloc (cell_alloc (rb.at 1 rfl).1)
  have q2 : ∀ o1 o2 : Obj, ((u2.alloc o1).alloc o2).cell? ⟨w.heap.size + 1, 2, none⟩ = some (.int .i64 y'.1) := fun _ _ => cell_alloc (cell_alloc (rb.at 2 rfl).1)
  have q3 : ∀ o1 o2 : Obj, ((u2.alloc o1).alloc o2).cell? ⟨w.heap.size + 1, 3, none⟩ = some (.int .i64 y'.2) := fun _ _ => cell_alloc (cell_alloc (rb.at 3 rfl).1)
  have q4 : ∀ o1 o2 : Obj, ((u2.alloc o1).alloc o2).cell? ⟨w.heap.size + 1, 4, none⟩ = some (.int .i64 z'.1) := fun _ _ => cell_alloc (cell_alloc (rb.at 4 rfl).1)
  have q5 : ∀ o1 o2 : Obj, ((u2.alloc o1).alloc o2).cell? ⟨w.heap.size + 1, 5, none⟩ = some (.int .i64 z'.2) := fun _ _ => cell_alloc (cell_alloc (rb.at 5 rfl).1)
  go_wp2_with fail
  clear q0 q1 q2 q3 q4 q5
  have rx : RowAt ((u2.alloc (.cells #[.int .i64 z.1, .int .i64 z.2] 31)).alloc (.cells #[.int .i64 x.1, .int .i64 x.2] 31)) u2.heap.size 0 [.int .i64 z.1, .int .i64 z.2] := by repeat (first | exact row_nil | refine row_cons ⟨by simp [go_sem], by simp [go_sem]⟩ ?_)
  have ry : RowAt ((u2.alloc (.cells #[.int .i64 z.1, .int .i64 z.2] 31)).alloc (.cells #[.int .i64 x.1, .int .i64 x.2] 31)) (u2.heap.size + 1) 0 [.int .i64 x.1, .int .i64 x.2] := by repeat (first | exact row_nil | refine row_cons ⟨by simp [go_sem], by simp [go_sem]⟩ ?_)
  have lp : w.heap.size + 1 + 1 + 1 < u2.heap.size := rp.lt
  refine (across_1 x' y' z' _).mono ?_
  rintro e u3 ⟨g, rfl, lg, hg, hb⟩
  replace rx := rx.kept hb
  replace ry := ry.kept hb
  replace ra := (ra.alloc.alloc).kept hb
  replace rb := (rb.alloc.alloc).kept hb
  replace rr := (rr.alloc.alloc).kept hb
  replace rp := (rp.alloc.alloc).kept hb
  replace bw := ((bw.alloc bw.size _).alloc (bw.alloc bw.size _).size _).trans (hb.mono ((bw.alloc bw.size _).alloc (bw.alloc bw.size _).size _).size)
  clear hb
  go_wp2_with fail
  refine (both_1 x' y' z' g _ hg).mono ?_
  rintro e u4 ⟨rfl, hb⟩
  clear hg lg
  replace rx := rx.kept hb
  replace ry := ry.kept hb
  replace ra := (ra).kept hb
  replace rb := (rb).kept hb
  replace rr := (rr).kept hb
  replace rp := (rp).kept hb
  replace bw := (bw).trans (hb.mono (bw).size)
  clear hb
  go_upto_region 7 with fail
  obtain ⟨U, hU⟩ : ∃ q : World, q = ((u4.alloc (.cells #[.int .i64 z'.1, .int .i64 z'.2] 31)).alloc (.cells #[.int .i64 x'.1, .int .i64 x'.2] 31)) := ⟨_, rfl⟩
  rw [← hU]
  have rz : RowAt U u4.heap.size 0 [.int .i64 z'.1, .int .i64 z'.2] := by rw [hU]; repeat (first | exact row_nil | refine row_cons ⟨by simp [go_sem], by simp [go_sem]⟩ ?_)
  have rv : RowAt U (u4.heap.size + 1) 0 [.int .i64 x'.1, .int .i64 x'.2] := by rw [hU]; repeat (first | exact row_nil | refine row_cons ⟨by simp [go_sem], by simp [go_sem]⟩ ?_)
  have l2 : u2.heap.size + 1 < u4.heap.size := ry.lt
  replace rx := RowAt.alloc2 hU rx
  replace ry := RowAt.alloc2 hU ry
  replace ra := RowAt.alloc2 hU ra
  replace rb := RowAt.alloc2 hU rb
  replace rr := RowAt.alloc2 hU rr
  replace rp := RowAt.alloc2 hU rp
  replace bw : Below w.heap.size w U := by rw [hU]; exact (bw.alloc bw.size _).alloc (bw.alloc bw.size _).size _
  clear hU
  refine AnyS.enter (K := RowsK w [(u2.heap.size, [.int .i64 z.1, .int .i64 z.2]), (u2.heap.size + 1, [.int .i64 x.1, .int .i64 x.2]), (u4.heap.size, [.int .i64 z'.1, .int .i64 z'.2]), (u4.heap.size + 1, [.int .i64 x'.1, .int .i64 x'.2]), (w.heap.size, [.int .i64 x.1, .int .i64 x.2, .int .i64 y.1, .int .i64 y.2, .int .i64 z.1, .int .i64 z.2]), (w.heap.size + 1, [.int .i64 x'.1, .int .i64 x'.2, .int .i64 y'.1, .int .i64 y'.2, .int .i64 z'.1, .int .i64 z'.2]), (w.heap.size + 1 + 1, [.int .i64 0, .int .i64 0, .int .i64 0, .int .i64 0, .int .i64 0, .int .i64 0]), (w.heap.size + 1 + 1 + 1, [.int .i64 c0.1, .int .i64 c0.2, .int .i64 0, .int .i64 0, .int .i64 0, .int .i64 0])] (fun _ => True)) (s := 9) (by kernel_rfl) ⟨?_, trivial, belS⟩ ?_
  · intro r hr
    simp only [List.mem_cons, List.not_mem_nil, or_false] at hr
    rcases hr with rfl | rfl | rfl | rfl | rfl | rfl | rfl | rfl
    all_goals (dsimp only; repeat (first | (with_reducible assumption) | (with_reducible exact RowAt.drew (by assumption)) | exact row_nil | refine row_cons (by first | (with_reducible assumption) | (with_reducible exact own_drew (by assumption)) | exact ⟨by simp [go_sem], by simp [go_sem]⟩) ?_))
  intro wd k0
  have lw : w.heap.size ≤ wd.heap.size := k0.2.2.size
  have lt0 : u2.heap.size < wd.heap.size := World.block_lt_of_cell? _ _ (((k0.row (b := u2.heap.size) (vs := [.int .i64 z.1, .int .i64 z.2]) (by simp)).at 0 rfl).1)
  have lt1 : u2.heap.size + 1 < wd.heap.size := World.block_lt_of_cell? _ _ (((k0.row (b := u2.heap.size + 1) (vs := [.int .i64 x.1, .int .i64 x.2]) (by simp)).at 0 rfl).1)
  have lt2 : u4.heap.size < wd.heap.size := World.block_lt_of_cell? _ _ (((k0.row (b := u4.heap.size) (vs := [.int .i64 z'.1, .int .i64 z'.2]) (by simp)).at 0 rfl).1)
  have lt3 : u4.heap.size + 1 < wd.heap.size := World.block_lt_of_cell? _ _ (((k0.row (b := u4.heap.size + 1) (vs := [.int .i64 x'.1, .int .i64 x'.2]) (by simp)).at 0 rfl).1)
  have lt4 : w.heap.size < wd.heap.size := World.block_lt_of_cell? _ _ (((k0.row (b := w.heap.size) (vs := [.int .i64 x.1, .int .i64 x.2, .int .i64 y.1, .int .i64 y.2, .int .i64 z.1, .int .i64 z.2]) (by simp)).at 0 rfl).1)
  have lt5 : w.heap.size + 1 < wd.heap.size := World.block_lt_of_cell? _ _ (((k0.row (b := w.heap.size + 1) (vs := [.int .i64 x'.1, .int .i64 x'.2, .int .i64 y'.1, .int .i64 y'.2, .int .i64 z'.1, .int .i64 z'.2]) (by simp)).at 0 rfl).1)
  have lt6 : w.heap.size + 1 + 1 < wd.heap.size := World.block_lt_of_cell? _ _ (((k0.row (b := w.heap.size + 1 + 1) (vs := [.int .i64 0, .int .i64 0, .int .i64 0, .int .i64 0, .int .i64 0, .int .i64 0]) (by simp)).at 0 rfl).1)
  have lt7 : w.heap.size + 1 + 1 + 1 < wd.heap.size := World.block_lt_of_cell? _ _ (((k0.row (b := w.heap.size + 1 + 1 + 1) (vs := [.int .i64 c0.1, .int .i64 c0.2, .int .i64 0, .int .i64 0, .int .i64 0, .int .i64 0]) (by simp)).at 0 rfl).1)
  refine AnyS.take (i := 0) (v := .int .i64 1) (T := fun _ => True) [] rfl (by kernel_rfl) (by kernel_rfl) (by kernel_rfl) (by kernel_rfl) (by kernel_rfl) (fun _ _ _ h => h) (fun L u q h => trivial) (fun L u h => OneS.less (by decide) h) (Or.inl ⟨by rfl, ?_⟩) (fun _ => k0) ?_
  · intro u hu
    clear hu
    go_simp
  try simp only [Act.put, List.getElem_toArray, List.getElem_cons_zero, List.getElem_cons_succ, List.setIfInBounds_toArray, List.set_cons_zero, List.set_cons_succ]
  refine AnyS.take (i := 1) (v := .agg #[.int .i64 z.1, .int .i64 z.2]) (T := RowsK w [(u2.heap.size, [.int .i64 z.1, .int .i64 z.2]), (u2.heap.size + 1, [.int .i64 x.1, .int .i64 x.2]), (u4.heap.size, [.int .i64 z'.1, .int .i64 z'.2]), (u4.heap.size + 1, [.int .i64 x'.1, .int .i64 x'.2]), (w.heap.size, [.int .i64 x.1, .int .i64 x.2, .int .i64 y.1, .int .i64 y.2, .int .i64 z.1, .int .i64 z.2]), (w.heap.size + 1, [.int .i64 x'.1, .int .i64 x'.2, .int .i64 y'.1, .int .i64 y'.2, .int .i64 z'.1, .int .i64 z'.2]), (w.heap.size + 1 + 1, [.int .i64 0, .int .i64 0, .int .i64 0, .int .i64 0, .int .i64 0, .int .i64 0]), (w.heap.size + 1 + 1 + 1, [.int .i64 c0.1, .int .i64 c0.2, .int .i64 0, .int .i64 0, .int .i64 0, .int .i64 0])] (fun _ => True)) [9] rfl (by kernel_rfl) (by kernel_rfl) (by kernel_rfl) (by kernel_rfl) (by kernel_rfl) (fun _ _ _ h => h) (fun L u q h => h (q 9 (by simp))) (fun L u h => OneS.less (by decide) h) (Or.inl ⟨by rfl, ?_⟩) (fun _ => k0) ?_
  · intro u hu
    have hr0 : RowAt u u2.heap.size 0 [.int .i64 z.1, .int .i64 z.2] := hu.row (by simp)
    have c0_0 := (hr0.at 0 rfl).1
    have c0_1 := (hr0.at 1 rfl).1
    have hr1 : RowAt u (u2.heap.size + 1) 0 [.int .i64 x.1, .int .i64 x.2] := hu.row (by simp)
    have c1_0 := (hr1.at 0 rfl).1
    have c1_1 := (hr1.at 1 rfl).1
    have hr2 : RowAt u u4.heap.size 0 [.int .i64 z'.1, .int .i64 z'.2] := hu.row (by simp)
    have c2_0 := (hr2.at 0 rfl).1
    have c2_1 := (hr2.at 1 rfl).1
    have hr3 : RowAt u (u4.heap.size + 1) 0 [.int .i64 x'.1, .int .i64 x'.2] := hu.row (by simp)
    have c3_0 := (hr3.at 0 rfl).1
    have c3_1 := (hr3.at 1 rfl).1
    have hr4 : RowAt u w.heap.size 0 [.int .i64 x.1, .int .i64 x.2, .int .i64 y.1, .int .i64 y.2, .int .i64 z.1, .int .i64 z.2] := hu.row (by simp)
    have c4_0 := (hr4.at 0 rfl).1
    have c4_1 := (hr4.at 1 rfl).1
    have c4_2 := (hr4.at 2 rfl).1
    have c4_3 := (hr4.at 3 rfl).1
    have c4_4 := (hr4.at 4 rfl).1
    have c4_5 := (hr4.at 5 rfl).1
    have hr5 : RowAt u (w.heap.size + 1) 0 [.int .i64 x'.1, .int .i64 x'.2, .int .i64 y'.1, .int .i64 y'.2, .int .i64 z'.1, .int .i64 z'.2] := hu.row (by simp)
    have c5_0 := (hr5.at 0 rfl).1
    have c5_1 := (hr5.at 1 rfl).1
    have c5_2 := (hr5.at 2 rfl).1
    have c5_3 := (hr5.at 3 rfl).1
    have c5_4 := (hr5.at 4 rfl).1
    have c5_5 := (hr5.at 5 rfl).1
    have hr6 : RowAt u (w.heap.size + 1 + 1) 0 [.int .i64 0, .int .i64 0, .int .i64 0, .int .i64 0, .int .i64 0, .int .i64 0] := hu.row (by simp)
    have c6_0 := (hr6.at 0 rfl).1
    have c6_1 := (hr6.at 1 rfl).1
    have c6_2 := (hr6.at 2 rfl).1
    have c6_3 := (hr6.at 3 rfl).1
    have c6_4 := (hr6.at 4 rfl).1
    have c6_5 := (hr6.at 5 rfl).1
    have hr7 : RowAt u (w.heap.size + 1 + 1 + 1) 0 [.int .i64 c0.1, .int .i64 c0.2, .int .i64 0, .int .i64 0, .int .i64 0, .int .i64 0] := hu.row (by simp)
    have c7_0 := (hr7.at 0 rfl).1
    have c7_1 := (hr7.at 1 rfl).1
    have c7_2 := (hr7.at 2 rfl).1
    have c7_3 := (hr7.at 3 rfl).1
    have c7_4 := (hr7.at 4 rfl).1
    have c7_5 := (hr7.at 5 rfl).1
    clear hu
    go_simp
  try simp only [Act.put, List.getElem_toArray, List.getElem_cons_zero, List.getElem_cons_succ, List.setIfInBounds_toArray, List.set_cons_zero, List.set_cons_succ]
  refine AnyS.take (i := 2) (v := .agg #[.int .i64 x'.1, .int .i64 x'.2]) (T := RowsK w [(u2.heap.size, [.int .i64 z.1, .int .i64 z.2]), (u2.heap.size + 1, [.int .i64 x.1, .int .i64 x.2]), (u4.heap.size, [.int .i64 z'.1, .int .i64 z'.2]), (u4.heap.size + 1, [.int .i64 x'.1, .int .i64 x'.2]), (w.heap.size, [.int .i64 x.1, .int .i64 x.2, .int .i64 y.1, .int .i64 y.2, .int .i64 z.1, .int .i64 z.2]), (w.heap.size + 1, [.int .i64 x'.1, .int .i64 x'.2, .int .i64 y'.1, .int .i64 y'.2, .int .i64 z'.1, .int .i64 z'.2]), (w.heap.size + 1 + 1, [.int .i64 0, .int .i64 0, .int .i64 0, .int .i64 0, .int .i64 0, .int .i64 0]), (w.heap.size + 1 + 1 + 1, [.int .i64 c0.1, .int .i64 c0.2, .int .i64 0, .int .i64 0, .int .i64 0, .int .i64 0])] (fun _ => True)) [9] rfl (by kernel_rfl) (by kernel_rfl) (by kernel_rfl) (by kernel_rfl) (by kernel_rfl) (fun _ _ _ h => h) (fun L u q h => h (q 9 (by simp))) (fun L u h => OneS.less (by decide) h) (Or.inl ⟨by rfl, ?_⟩) (fun _ => k0) ?_
  · intro u hu
    have hr0 : RowAt u u2.heap.size 0 [.int .i64 z.1, .int .i64 z.2] := hu.row (by simp)
    have c0_0 := (hr0.at 0 rfl).1
    have c0_1 := (hr0.at 1 rfl).1
    have hr1 : RowAt u (u2.heap.size + 1) 0 [.int .i64 x.1, .int .i64 x.2] := hu.row (by simp)
    have c1_0 := (hr1.at 0 rfl).1
    have c1_1 := (hr1.at 1 rfl).1
    have hr2 : RowAt u u4.heap.size 0 [.int .i64 z'.1, .int .i64 z'.2] := hu.row (by simp)
    have c2_0 := (hr2.at 0 rfl).1
    have c2_1 := (hr2.at 1 rfl).1
    have hr3 : RowAt u (u4.heap.size + 1) 0 [.int .i64 x'.1, .int .i64 x'.2] := hu.row (by simp)
    have c3_0 := (hr3.at 0 rfl).1
    have c3_1 := (hr3.at 1 rfl).1
    have hr4 : RowAt u w.heap.size 0 [.int .i64 x.1, .int .i64 x.2, .int .i64 y.1, .int .i64 y.2, .int .i64 z.1, .int .i64 z.2] := hu.row (by simp)
    have c4_0 := (hr4.at 0 rfl).1
    have c4_1 := (hr4.at 1 rfl).1
    have c4_2 := (hr4.at 2 rfl).1
    have c4_3 := (hr4.at 3 rfl).1
    have c4_4 := (hr4.at 4 rfl).1
    have c4_5 := (hr4.at 5 rfl).1
    have hr5 : RowAt u (w.heap.size + 1) 0 [.int .i64 x'.1, .int .i64 x'.2, .int .i64 y'.1, .int .i64 y'.2, .int .i64 z'.1, .int .i64 z'.2] := hu.row (by simp)
    have c5_0 := (hr5.at 0 rfl).1
    have c5_1 := (hr5.at 1 rfl).1
    have c5_2 := (hr5.at 2 rfl).1
    have c5_3 := (hr5.at 3 rfl).1
    have c5_4 := (hr5.at 4 rfl).1
    have c5_5 := (hr5.at 5 rfl).1
    have hr6 : RowAt u (w.heap.size + 1 + 1) 0 [.int .i64 0, .int .i64 0, .int .i64 0, .int .i64 0, .int .i64 0, .int .i64 0] := hu.row (by simp)
    have c6_0 := (hr6.at 0 rfl).1
    have c6_1 := (hr6.at 1 rfl).1
    have c6_2 := (hr6.at 2 rfl).1
    have c6_3 := (hr6.at 3 rfl).1
    have c6_4 := (hr6.at 4 rfl).1
    have c6_5 := (hr6.at 5 rfl).1
    have hr7 : RowAt u (w.heap.size + 1 + 1 + 1) 0 [.int .i64 c0.1, .int .i64 c0.2, .int .i64 0, .int .i64 0, .int .i64 0, .int .i64 0] := hu.row (by simp)
    have c7_0 := (hr7.at 0 rfl).1
    have c7_1 := (hr7.at 1 rfl).1
    have c7_2 := (hr7.at 2 rfl).1
    have c7_3 := (hr7.at 3 rfl).1
    have c7_4 := (hr7.at 4 rfl).1
    have c7_5 := (hr7.at 5 rfl).1
    clear hu
    go_simp
  try simp only [Act.put, List.getElem_toArray, List.getElem_cons_zero, List.getElem_cons_succ, List.setIfInBounds_toArray, List.set_cons_zero, List.set_cons_succ]
  refine AnyS.take (i := 4) (v := .agg #[.int .i64 x.1, .int .i64 x.2]) (T := RowsK w [(u2.heap.size, [.int .i64 z.1, .int .i64 z.2]), (u2.heap.size + 1, [.int .i64 x.1, .int .i64 x.2]), (u4.heap.size, [.int .i64 z'.1, .int .i64 z'.2]), (u4.heap.size + 1, [.int .i64 x'.1, .int .i64 x'.2]), (w.heap.size, [.int .i64 x.1, .int .i64 x.2, .int .i64 y.1, .int .i64 y.2, .int .i64 z.1, .int .i64 z.2]), (w.heap.size + 1, [.int .i64 x'.1, .int .i64 x'.2, .int .i64 y'.1, .int .i64 y'.2, .int .i64 z'.1, .int .i64 z'.2]), (w.heap.size + 1 + 1, [.int .i64 0, .int .i64 0, .int .i64 0, .int .i64 0, .int .i64 0, .int .i64 0]), (w.heap.size + 1 + 1 + 1, [.int .i64 c0.1, .int .i64 c0.2, .int .i64 0, .int .i64 0, .int .i64 0, .int .i64 0])] (fun _ => True)) [9] rfl (by kernel_rfl) (by kernel_rfl) (by kernel_rfl) (by kernel_rfl) (by kernel_rfl) (fun _ _ _ h => h) (fun L u q h => h (q 9 (by simp))) (fun L u h => OneS.less (by decide) h) (Or.inl ⟨by rfl, ?_⟩) (fun _ => k0) ?_
  · intro u hu
    have hr0 : RowAt u u2.heap.size 0 [.int .i64 z.1, .int .i64 z.2] := hu.row (by simp)
    have c0_0 := (hr0.at 0 rfl).1
    have c0_1 := (hr0.at 1 rfl).1
    have hr1 : RowAt u (u2.heap.size + 1) 0 [.int .i64 x.1, .int .i64 x.2] := hu.row (by simp)
    have c1_0 := (hr1.at 0 rfl).1
    have c1_1 := (hr1.at 1 rfl).1
    have hr2 : RowAt u u4.heap.size 0 [.int .i64 z'.1, .int .i64 z'.2] := hu.row (by simp)
    have c2_0 := (hr2.at 0 rfl).1
    have c2_1 := (hr2.at 1 rfl).1
    have hr3 : RowAt u (u4.heap.size + 1) 0 [.int .i64 x'.1, .int .i64 x'.2] := hu.row (by simp)
    have c3_0 := (hr3.at 0 rfl).1
    have c3_1 := (hr3.at 1 rfl).1
    have hr4 : RowAt u w.heap.size 0 [.int .i64 x.1, .int .i64 x.2, .int .i64 y.1, .int .i64 y.2, .int .i64 z.1, .int .i64 z.2] := hu.row (by simp)
    have c4_0 := (hr4.at 0 rfl).1
    have c4_1 := (hr4.at 1 rfl).1
    have c4_2 := (hr4.at 2 rfl).1
    have c4_3 := (hr4.at 3 rfl).1
    have c4_4 := (hr4.at 4 rfl).1
    have c4_5 := (hr4.at 5 rfl).1
    have hr5 : RowAt u (w.heap.size + 1) 0 [.int .i64 x'.1, .int .i64 x'.2, .int .i64 y'.1, .int .i64 y'.2, .int .i64 z'.1, .int .i64 z'.2] := hu.row (by simp)
    have c5_0 := (hr5.at 0 rfl).1
    have c5_1 := (hr5.at 1 rfl).1
    have c5_2 := (hr5.at 2 rfl).1
    have c5_3 := (hr5.at 3 rfl).1
    have c5_4 := (hr5.at 4 rfl).1
    have c5_5 := (hr5.at 5 rfl).1
    have hr6 : RowAt u (w.heap.size + 1 + 1) 0 [.int .i64 0, .int .i64 0, .int .i64 0, .int .i64 0, .int .i64 0, .int .i64 0] := hu.row (by simp)
    have c6_0 := (hr6.at 0 rfl).1
    have c6_1 := (hr6.at 1 rfl).1
    have c6_2 := (hr6.at 2 rfl).1
    have c6_3 := (hr6.at 3 rfl).1
    have c6_4 := (hr6.at 4 rfl).1
    have c6_5 := (hr6.at 5 rfl).1
    have hr7 : RowAt u (w.heap.size + 1 + 1 + 1) 0 [.int .i64 c0.1, .int .i64 c0.2, .int .i64 0, .int .i64 0, .int .i64 0, .int .i64 0] := hu.row (by simp)
    have c7_0 := (hr7.at 0 rfl).1
    have c7_1 := (hr7.at 1 rfl).1
    have c7_2 := (hr7.at 2 rfl).1
    have c7_3 := (hr7.at 3 rfl).1
    have c7_4 := (hr7.at 4 rfl).1
    have c7_5 := (hr7.at 5 rfl).1
    clear hu
    go_simp
  try simp only [Act.put, List.getElem_toArray, List.getElem_cons_zero, List.getElem_cons_succ, List.setIfInBounds_toArray, List.set_cons_zero, List.set_cons_succ]
  refine AnyS.take (i := 5) (v := .agg #[.int .i64 z'.1, .int .i64 z'.2]) (T := RowsK w [(u2.heap.size, [.int .i64 z.1, .int .i64 z.2]), (u2.heap.size + 1, [.int .i64 x.1, .int .i64 x.2]), (u4.heap.size, [.int .i64 z'.1, .int .i64 z'.2]), (u4.heap.size + 1, [.int .i64 x'.1, .int .i64 x'.2]), (w.heap.size, [.int .i64 x.1, .int .i64 x.2, .int .i64 y.1, .int .i64 y.2, .int .i64 z.1, .int .i64 z.2]), (w.heap.size + 1, [.int .i64 x'.1, .int .i64 x'.2, .int .i64 y'.1, .int .i64 y'.2, .int .i64 z'.1, .int .i64 z'.2]), (w.heap.size + 1 + 1, [.int .i64 0, .int .i64 0, .int .i64 0, .int .i64 0, .int .i64 0, .int .i64 0]), (w.heap.size + 1 + 1 + 1, [.int .i64 c0.1, .int .i64 c0.2, .int .i64 0, .int .i64 0, .int .i64 0, .int .i64 0])] (fun _ => True)) [9] rfl (by kernel_rfl) (by kernel_rfl) (by kernel_rfl) (by kernel_rfl) (by kernel_rfl) (fun _ _ _ h => h) (fun L u q h => h (q 9 (by simp))) (fun L u h => OneS.less (by decide) h) (Or.inl ⟨by rfl, ?_⟩) (fun _ => k0) ?_
  · intro u hu
    have hr0 : RowAt u u2.heap.size 0 [.int .i64 z.1, .int .i64 z.2] := hu.row (by simp)
    have c0_0 := (hr0.at 0 rfl).1
    have c0_1 := (hr0.at 1 rfl).1
    have hr1 : RowAt u (u2.heap.size + 1) 0 [.int .i64 x.1, .int .i64 x.2] := hu.row (by simp)
    have c1_0 := (hr1.at 0 rfl).1
    have c1_1 := (hr1.at 1 rfl).1
    have hr2 : RowAt u u4.heap.size 0 [.int .i64 z'.1, .int .i64 z'.2] := hu.row (by simp)
    have c2_0 := (hr2.at 0 rfl).1
    have c2_1 := (hr2.at 1 rfl).1
    have hr3 : RowAt u (u4.heap.size + 1) 0 [.int .i64 x'.1, .int .i64 x'.2] := hu.row (by simp)
    have c3_0 := (hr3.at 0 rfl).1
    have c3_1 := (hr3.at 1 rfl).1
    have hr4 : RowAt u w.heap.size 0 [.int .i64 x.1, .int .i64 x.2, .int .i64 y.1, .int .i64 y.2, .int .i64 z.1, .int .i64 z.2] := hu.row (by simp)
    have c4_0 := (hr4.at 0 rfl).1
    have c4_1 := (hr4.at 1 rfl).1
    have c4_2 := (hr4.at 2 rfl).1
    have c4_3 := (hr4.at 3 rfl).1
    have c4_4 := (hr4.at 4 rfl).1
    have c4_5 := (hr4.at 5 rfl).1
    have hr5 : RowAt u (w.heap.size + 1) 0 [.int .i64 x'.1, .int .i64 x'.2, .int .i64 y'.1, .int .i64 y'.2, .int .i64 z'.1, .int .i64 z'.2] := hu.row (by simp)
    have c5_0 := (hr5.at 0 rfl).1
    have c5_1 := (hr5.at 1 rfl).1
    have c5_2 := (hr5.at 2 rfl).1
    have c5_3 := (hr5.at 3 rfl).1
    have c5_4 := (hr5.at 4 rfl).1
    have c5_5 := (hr5.at 5 rfl).1
    have hr6 : RowAt u (w.heap.size + 1 + 1) 0 [.int .i64 0, .int .i64 0, .int .i64 0, .int .i64 0, .int .i64 0, .int .i64 0] := hu.row (by simp)
    have c6_0 := (hr6.at 0 rfl).1
    have c6_1 := (hr6.at 1 rfl).1
    have c6_2 := (hr6.at 2 rfl).1
    have c6_3 := (hr6.at 3 rfl).1
    have c6_4 := (hr6.at 4 rfl).1
    have c6_5 := (hr6.at 5 rfl).1
    have hr7 : RowAt u (w.heap.size + 1 + 1 + 1) 0 [.int .i64 c0.1, .int .i64 c0.2, .int .i64 0, .int .i64 0, .int .i64 0, .int .i64 0] := hu.row (by simp)
    have c7_0 := (hr7.at 0 rfl).1
    have c7_1 := (hr7.at 1 rfl).1
    have c7_2 := (hr7.at 2 rfl).1
    have c7_3 := (hr7.at 3 rfl).1
    have c7_4 := (hr7.at 4 rfl).1
    have c7_5 := (hr7.at 5 rfl).1
    clear hu
    go_simp
  try simp only [Act.put, List.getElem_toArray, List.getElem_cons_zero, List.getElem_cons_succ, List.setIfInBounds_toArray, List.set_cons_zero, List.set_cons_succ]
  refine AnyS.std (n := 2) [(3, 31, .agg #[.int .i64 (mulI z x').1, .int .i64 (mulI z x').2]), (6, 34, .agg #[.int .i64 (mulI x z').1, .int .i64 (mulI x z').2]), (7, 35, .agg #[.int .i64 c1.1, .int .i64 c1.2])] [] (RowsK w [(u2.heap.size, [.int .i64 z.1, .int .i64 z.2]), (u2.heap.size + 1, [.int .i64 x.1, .int .i64 x.2]), (u4.heap.size, [.int .i64 z'.1, .int .i64 z'.2]), (u4.heap.size + 1, [.int .i64 x'.1, .int .i64 x'.2]), (w.heap.size, [.int .i64 x.1, .int .i64 x.2, .int .i64 y.1, .int .i64 y.2, .int .i64 z.1, .int .i64 z.2]), (w.heap.size + 1, [.int .i64 x'.1, .int .i64 x'.2, .int .i64 y'.1, .int .i64 y'.2, .int .i64 z'.1, .int .i64 z'.2]), (w.heap.size + 1 + 1, [.int .i64 0, .int .i64 0, .int .i64 0, .int .i64 0, .int .i64 0, .int .i64 0]), (w.heap.size + 1 + 1 + 1, [.int .i64 c0.1, .int .i64 c0.2, .int .i64 0, .int .i64 0, .int .i64 0, .int .i64 0])] (fun _ => True)) (wd.heap.size) (fun u u' h hb => h.kept (fun _ _ h _ => h) hb) (by kernel_rfl) (by kernel_rfl) (by kernel_rfl) (by kernel_rfl) (fun u L h _ => h) k0 (Nat.le_refl _) ?_ ?_ ?_
  · intro c hc t u ku lu hp
    simp only [List.mem_cons, List.not_mem_nil, or_false] at hc
    rcases hc with rfl | rfl | rfl
    · clear hp
      simp only [LatC.op, LatC.dst, LatC.val, LatB.op, LatB.dst, LatB.zs, LatB.ty, List.map, List.cons_append, List.nil_append, putA, Act.put, List.setIfInBounds_toArray, List.set_cons_zero, List.set_cons_succ]
      refine wpOp_step rfl (fun K' hK' => ?_)
      have hK := Lib.hid hK'
      clear hK'
      go_simp
      with_reducible refine (MulI_any z x' oz ox' _).mono ?_
      rintro _ u1 ⟨rfl, hb1⟩
      go_wp2_with fail
      exact hK.out _ _ ⟨rfl, hb1⟩
    · clear hp
      simp only [LatC.op, LatC.dst, LatC.val, LatB.op, LatB.dst, LatB.zs, LatB.ty, List.map, List.cons_append, List.nil_append, putA, Act.put, List.setIfInBounds_toArray, List.set_cons_zero, List.set_cons_succ]
      refine wpOp_step rfl (fun K' hK' => ?_)
      have hK := Lib.hid hK'
      clear hK'
      go_simp
      with_reducible refine (MulI_any x z' ox oz' _).mono ?_
      rintro _ u1 ⟨rfl, hb1⟩
      go_wp2_with fail
      exact hK.out _ _ ⟨rfl, hb1⟩
    · have q31 : t 31 = .agg #[.int .i64 (mulI z x').1, .int .i64 (mulI z x').2] := hp (3, 31, .agg #[.int .i64 (mulI z x').1, .int .i64 (mulI z x').2]) (by simp) (by kernel_rfl)
      have q34 : t 34 = .agg #[.int .i64 (mulI x z').1, .int .i64 (mulI x z').2] := hp (6, 34, .agg #[.int .i64 (mulI x z').1, .int .i64 (mulI x z').2]) (by simp) (by kernel_rfl)
      clear hp
      simp only [LatC.op, LatC.dst, LatC.val, LatB.op, LatB.dst, LatB.zs, LatB.ty, List.map, List.cons_append, List.nil_append, putA, Act.put, List.setIfInBounds_toArray, List.set_cons_zero, List.set_cons_succ]
      simp only [q31]
      simp only [q34]
      refine wpOp_step rfl (fun K' hK' => ?_)
      have hK := Lib.hid hK'
      clear hK'
      go_simp
      with_reducible refine (SC1.out _).mono ?_
      rintro _ u1 ⟨rfl, hb1⟩
      go_wp2_with fail
      exact hK.out _ _ ⟨rfl, hb1⟩
  · intro b hb; cases hb
  intro t u g ku lu hcs hbs hne
  have t31 : t 31 = .agg #[.int .i64 (mulI z x').1, .int .i64 (mulI z x').2] := hcs (3, 31, .agg #[.int .i64 (mulI z x').1, .int .i64 (mulI z x').2]) (by simp)
  have t34 : t 34 = .agg #[.int .i64 (mulI x z').1, .int .i64 (mulI x z').2] := hcs (6, 34, .agg #[.int .i64 (mulI x z').1, .int .i64 (mulI x z').2]) (by simp)
  have t35 : t 35 = .agg #[.int .i64 c1.1, .int .i64 c1.2] := hcs (7, 35, .agg #[.int .i64 c1.1, .int .i64 c1.2]) (by simp)
  clear hcs hbs hne
  simp only [LatC.op, LatC.dst, LatC.val, LatB.op, LatB.dst, LatB.zs, LatB.ty, List.map, List.cons_append, List.nil_append, setL, if_true, putA, Act.put, List.setIfInBounds_toArray, List.set_cons_zero, List.set_cons_succ, t31, t34, t35]
  clear t31 t34 t35
  refine AnyS.take (i := 8) (v := .pointer (some ⟨w.heap.size + 1 + 1 + 1, 2, none⟩)) (T := fun _ => True) [] rfl (by kernel_rfl) (by kernel_rfl) (by kernel_rfl) (by kernel_rfl) (by kernel_rfl) (fun _ _ _ h => h) (fun L u q h => trivial) (fun L u h => OneS.less (by decide) h) (Or.inl ⟨by rfl, ?_⟩) (fun _ => ku) ?_
  · intro u hu
    clear hu
    go_simp
  try simp only [Act.put, List.getElem_toArray, List.getElem_cons_zero, List.getElem_cons_succ, List.setIfInBounds_toArray, List.set_cons_zero, List.set_cons_succ]
  have rp : RowAt u (w.heap.size + 1 + 1 + 1) 0 [.int .i64 c0.1, .int .i64 c0.2, .int .i64 0, .int .i64 0, .int .i64 0, .int .i64 0] := ku.row (by simp)
  have ra : RowAt u (w.heap.size) 0 [.int .i64 x.1, .int .i64 x.2, .int .i64 y.1, .int .i64 y.2, .int .i64 z.1, .int .i64 z.2] := ku.row (by simp)
  have rb : RowAt u (w.heap.size + 1) 0 [.int .i64 x'.1, .int .i64 x'.2, .int .i64 y'.1, .int .i64 y'.2, .int .i64 z'.1, .int .i64 z'.2] := ku.row (by simp)
  have rr : RowAt u (w.heap.size + 1 + 1) 0 [.int .i64 0, .int .i64 0, .int .i64 0, .int .i64 0, .int .i64 0, .int .i64 0] := ku.row (by simp)
  have bw := ku.2.2
  have sc0 := (rp.at 2 rfl).1
  have sc1 := (rp.at 3 rfl).1
  have sf0 := (rp.at 2 rfl).2
  have sf1 := (rp.at 3 rfl).2
  refine AnyS.one (i := 9) (by kernel_rfl) (AnyS.comes rfl (fun K hK => ?_))
  go_simp
  refine hK.out _ _ (fun h => absurd h (by decide)) ?_
  clear hK K
  try simp only [Act.put, List.getElem_toArray, List.getElem_cons_zero, List.getElem_cons_succ, List.setIfInBounds_toArray, List.set_cons_zero, List.set_cons_succ]
  refine AnyS.done (by kernel_rfl) ?_ _
  clear sc0 sc1 sf0 sf1 ku lu k0 lw lt0 lt1 lt2 lt3 lt4 lt5 lt6 lt7 lp l2
  go_wp2_with fail
  obtain ⟨v1, hv⟩ : ∃ q : World, q = (u.setCell ⟨w.heap.size + 1 + 1 + 1, 2, none⟩ (.int .i64 c1.1)).setCell ⟨w.heap.size + 1 + 1 + 1, 3, none⟩ (.int .i64 c1.2) := ⟨_, rfl⟩
  rw [← hv]
  replace rp : RowAt v1 (w.heap.size + 1 + 1 + 1) 0 [.int .i64 c0.1, .int .i64 c0.2, .int .i64 c1.1, .int .i64 c1.2, .int .i64 0, .int .i64 0] := by rw [hv]; exact (row_cons (own_next (by decide) (own_next (by decide) (rp.at 0 rfl))) (row_cons (own_next (by decide) (own_next (by decide) (rp.at 1 rfl))) (row_cons (own_next (by decide) (own_put (rp.at 2 rfl))) (row_cons (own_put (own_next (by decide) (rp.at 3 rfl))) (row_cons (own_next (by decide) (own_next (by decide) (rp.at 4 rfl))) (row_cons (own_next (by decide) (own_next (by decide) (rp.at 5 rfl))) row_nil))))))
  replace ra := RowAt.set2 hv (by dsimp only; omega) (by dsimp only; omega) ra
  replace rb := RowAt.set2 hv (by dsimp only; omega) (by dsimp only; omega) rb
  replace rr := RowAt.set2 hv (by dsimp only; omega) (by dsimp only; omega) rr
  replace bw : Below w.heap.size w v1 := by rw [hv]; exact (bw.setCell (by dsimp only; omega) _).setCell (by dsimp only; omega) _
  clear hv
  rw [rounds_succ]
  have q0 := (ra.at 0 rfl).1
  have q1 := (ra.at 1 rfl).1
  have q2 := (ra.at 2 rfl).1
  have q3 := (ra.at 3 rfl).1
  have q4 := (ra.at 4 rfl).1
  have q5 := (ra.at 5 rfl).1
  go_wp2_with fail
  clear q0 q1 q2 q3 q4 q5
  refine (across_2 x y z _).mono ?_
  rintro e u1 ⟨g, rfl, lg, hg, hb⟩
  replace ra := (ra).kept hb
  replace rb := (rb).kept hb
  replace rr := (rr).kept hb
  replace rp := (rp).kept hb
  replace bw := (bw).trans (hb.mono (bw).size)
  clear hb
  go_wp2_with fail
  refine (both_2 x y z g _ hg).mono ?_
  rintro e u2 ⟨rfl, hb⟩
  clear hg lg
  replace ra := (ra).kept hb
  replace rb := (rb).kept hb
  replace rr := (rr).kept hb
  replace rp := (rp).kept hb
  replace bw := (bw).trans (hb.mono (bw).size)
  clear hb
  have q0 : ∀ o1 o2 : Obj, ((u2.alloc o1).alloc o2).cell? ⟨w.heap.size + 1, 0, none⟩ = some (.int .i64 x'.1) := fun _ _ => cell_alloc (cell_alloc (rb.at 0 rfl).1)
  have q1 : ∀ o1 o2 : Obj, ((u2.alloc o1).alloc o2).cell? ⟨w.heap.size + 1, 1, none⟩ = some (.int .i64 x'.2) := fun _ _ => cell_alloc (cell_alloc (rb.at 1 rfl).1)
  have q2 : ∀ o1 o2 : Obj, ((u2.alloc o1).alloc o2).cell? ⟨w.heap.size + 1, 2, none⟩ = some (.int .i64 y'.1) := fun _ _ => cell_alloc (cell_alloc (rb.at 2 rfl).1)
  have q3 : ∀ o1 o2 : Obj, ((u2.alloc o1).alloc o2).cell? ⟨w.heap.size + 1, 3, none⟩ = some (.int .i64 y'.2) := fun _ _ => cell_alloc (cell_alloc (rb.at 3 rfl).1)
  have q4 : ∀ o1 o2 : Obj, ((u2.alloc o1).alloc o2).cell? ⟨w.heap.size + 1, 4, none⟩ = some (.int .i64 z'.1) := fun _ _ => cell_alloc (cell_alloc (rb.at 4 rfl).1)
  have q5 : ∀ o1 o2 : Obj, ((u2.alloc o1).alloc o2).cell? ⟨w.heap.size + 1, 5, none⟩ = some (.int .i64 z'.2) := fun _ _ => cell_alloc (cell_alloc (rb.at 5 rfl).1)
  go_wp2_with fail
  clear q0 q1 q2 q3 q4 q5
  have rx : RowAt ((u2.alloc (.cells #[.int .i64 x.1, .int .i64 x.2] 31)).alloc (.cells #[.int .i64 y.1, .int .i64 y.2] 31)) u2.heap.size 0 [.int .i64 x.1, .int .i64 x.2] := by repeat (first | exact row_nil | refine row_cons ⟨by simp [go_sem], by simp [go_sem]⟩ ?_)
  have ry : RowAt ((u2.alloc (.cells #[.int .i64 x.1, .int .i64 x.2] 31)).alloc (.cells #[.int .i64 y.1, .int .i64 y.2] 31)) (u2.heap.size + 1) 0 [.int .i64 y.1, .int .i64 y.2] := by repeat (first | exact row_nil | refine row_cons ⟨by simp [go_sem], by simp [go_sem]⟩ ?_)
  have lp : w.heap.size + 1 + 1 + 1 < u2.heap.size := rp.lt
  refine (across_2 x' y' z' _).mono ?_
  rintro e u3 ⟨g, rfl, lg, hg, hb⟩
  replace rx := rx.kept hb
  replace ry := ry.kept hb
  replace ra := (ra.alloc.alloc).kept hb
  replace rb := (rb.alloc.alloc).kept hb
  replace rr := (rr.alloc.alloc).kept hb
  replace rp := (rp.alloc.alloc).kept hb
  replace bw := ((bw.alloc bw.size _).alloc (bw.alloc bw.size _).size _).trans (hb.mono ((bw.alloc bw.size _).alloc (bw.alloc bw.size _).size _).size)
  clear hb
  go_wp2_with fail
  refine (both_2 x' y' z' g _ hg).mono ?_
  rintro e u4 ⟨rfl, hb⟩
  clear hg lg
  replace rx := rx.kept hb
  replace ry := ry.kept hb
  replace ra := (ra).kept hb
  replace rb := (rb).kept hb
  replace rr := (rr).kept hb
  replace rp := (rp).kept hb
  replace bw := (bw).trans (hb.mono (bw).size)
  clear hb
  go_upto_region 7 with fail
  obtain ⟨U, hU⟩ : ∃ q : World, q = ((u4.alloc (.cells #[.int .i64 x'.1, .int .i64 x'.2] 31)).alloc (.cells #[.int .i64 y'.1, .int .i64 y'.2] 31)) := ⟨_, rfl⟩
  rw [← hU]
  have rz : RowAt U u4.heap.size 0 [.int .i64 x'.1, .int .i64 x'.2] := by rw [hU]; repeat (first | exact row_nil | refine row_cons ⟨by simp [go_sem], by simp [go_sem]⟩ ?_)
  have rv : RowAt U (u4.heap.size + 1) 0 [.int .i64 y'.1, .int .i64 y'.2] := by rw [hU]; repeat (first | exact row_nil | refine row_cons ⟨by simp [go_sem], by simp [go_sem]⟩ ?_)
  have l2 : u2.heap.size + 1 < u4.heap.size := ry.lt
  replace rx := RowAt.alloc2 hU rx
  replace ry := RowAt.alloc2 hU ry
  replace ra := RowAt.alloc2 hU ra
  replace rb := RowAt.alloc2 hU rb
  replace rr := RowAt.alloc2 hU rr
  replace rp := RowAt.alloc2 hU rp
  replace bw : Below w.heap.size w U := by rw [hU]; exact (bw.alloc bw.size _).alloc (bw.alloc bw.size _).size _
  clear hU
  refine AnyS.enter (K := RowsK w [(u2.heap.size, [.int .i64 x.1, .int .i64 x.2]), (u2.heap.size + 1, [.int .i64 y.1, .int .i64 y.2]), (u4.heap.size, [.int .i64 x'.1, .int .i64 x'.2]), (u4.heap.size + 1, [.int .i64 y'.1, .int .i64 y'.2]), (w.heap.size, [.int .i64 x.1, .int .i64 x.2, .int .i64 y.1, .int .i64 y.2, .int .i64 z.1, .int .i64 z.2]), (w.heap.size + 1, [.int .i64 x'.1, .int .i64 x'.2, .int .i64 y'.1, .int .i64 y'.2, .int .i64 z'.1, .int .i64 z'.2]), (w.heap.size + 1 + 1, [.int .i64 0, .int .i64 0, .int .i64 0, .int .i64 0, .int .i64 0, .int .i64 0]), (w.heap.size + 1 + 1 + 1, [.int .i64 c0.1, .int .i64 c0.2, .int .i64 c1.1, .int .i64 c1.2, .int .i64 0, .int .i64 0])] (fun _ => True)) (s := 9) (by kernel_rfl) ⟨?_, trivial, belS⟩ ?_
  · intro r hr
    simp only [List.mem_cons, List.not_mem_nil, or_false] at hr
    rcases hr with rfl | rfl | rfl | rfl | rfl | rfl | rfl | rfl
    all_goals (dsimp only; repeat (first | (with_reducible assumption) | (with_reducible exact RowAt.drew (by assumption)) | exact row_nil | refine row_cons (by first | (with_reducible assumption) | (with_reducible exact own_drew (by assumption)) | exact ⟨by simp [go_sem], by simp [go_sem]⟩) ?_))
  intro wd k0
  have lw : w.heap.size ≤ wd.heap.size := k0.2.2.size
  have lt0 : u2.heap.size < wd.heap.size := World.block_lt_of_cell? _ _ (((k0.row (b := u2.heap.size) (vs := [.int .i64 x.1, .int .i64 x.2]) (by simp)).at 0 rfl).1)
  have lt1 : u2.heap.size + 1 < wd.heap.size := World.block_lt_of_cell? _ _ (((k0.row (b := u2.heap.size + 1) (vs := [.int .i64 y.1, .int .i64 y.2]) (by simp)).at 0 rfl).1)
  have lt2 : u4.heap.size < wd.heap.size := World.block_lt_of_cell? _ _ (((k0.row (b := u4.heap.size) (vs := [.int .i64 x'.1, .int .i64 x'.2]) (by simp)).at 0 rfl).1)
  have lt3 : u4.heap.size + 1 < wd.heap.size := World.block_lt_of_cell? _ _ (((k0.row (b := u4.heap.size + 1) (vs := [.int .i64 y'.1, .int .i64 y'.2]) (by simp)).at 0 rfl).1)
  have lt4 : w.heap.size < wd.heap.size := World.block_lt_of_cell? _ _ (((k0.row (b := w.heap.size) (vs := [.int .i64 x.1, .int .i64 x.2, .int .i64 y.1, .int .i64 y.2, .int .i64 z.1, .int .i64 z.2]) (by simp)).at 0 rfl).1)
  have lt5 : w.heap.size + 1 < wd.heap.size := World.block_lt_of_cell? _ _ (((k0.row (b := w.heap.size + 1) (vs := [.int .i64 x'.1, .int .i64 x'.2, .int .i64 y'.1, .int .i64 y'.2, .int .i64 z'.1, .int .i64 z'.2]) (by simp)).at 0 rfl).1)
  have lt6 : w.heap.size + 1 + 1 < wd.heap.size := World.block_lt_of_cell? _ _ (((k0.row (b := w.heap.size + 1 + 1) (vs := [.int .i64 0, .int .i64 0, .int .i64 0, .int .i64 0, .int .i64 0, .int .i64 0]) (by simp)).at 0 rfl).1)
  have lt7 : w.heap.size + 1 + 1 + 1 < wd.heap.size := World.block_lt_of_cell? _ _ (((k0.row (b := w.heap.size + 1 + 1 + 1) (vs := [.int .i64 c0.1, .int .i64 c0.2, .int .i64 c1.1, .int .i64 c1.2, .int .i64 0, .int .i64 0]) (by simp)).at 0 rfl).1)
  refine AnyS.take (i := 0) (v := .int .i64 2) (T := fun _ => True) [] rfl (by kernel_rfl) (by kernel_rfl) (by kernel_rfl) (by kernel_rfl) (by kernel_rfl) (fun _ _ _ h => h) (fun L u q h => trivial) (fun L u h => OneS.less (by decide) h) (Or.inl ⟨by rfl, ?_⟩) (fun _ => k0) ?_
  · intro u hu
    clear hu
    go_simp
  try simp only [Act.put, List.getElem_toArray, List.getElem_cons_zero, List.getElem_cons_succ, List.setIfInBounds_toArray, List.set_cons_zero, List.set_cons_succ]
  refine AnyS.take (i := 1) (v := .agg #[.int .i64 x.1, .int .i64 x.2]) (T := RowsK w [(u2.heap.size, [.int .i64 x.1, .int .i64 x.2]), (u2.heap.size + 1, [.int .i64 y.1, .int .i64 y.2]), (u4.heap.size, [.int .i64 x'.1, .int .i64 x'.2]), (u4.heap.size + 1, [.int .i64 y'.1, .int .i64 y'.2]), (w.heap.size, [.int .i64 x.1, .int .i64 x.2, .int .i64 y.1, .int .i64 y.2, .int .i64 z.1, .int .i64 z.2]), (w.heap.size + 1, [.int .i64 x'.1, .int .i64 x'.2, .int .i64 y'.1, .int .i64 y'.2, .int .i64 z'.1, .int .i64 z'.2]), (w.heap.size + 1 + 1, [.int .i64 0, .int .i64 0, .int .i64 0, .int .i64 0, .int .i64 0, .int .i64 0]), (w.heap.size + 1 + 1 + 1, [.int .i64 c0.1, .int .i64 c0.2, .int .i64 c1.1, .int .i64 c1.2, .int .i64 0, .int .i64 0])] (fun _ => True)) [9] rfl (by kernel_rfl) (by kernel_rfl) (by kernel_rfl) (by kernel_rfl) (by kernel_rfl) (fun _ _ _ h => h) (fun L u q h => h (q 9 (by simp))) (fun L u h => OneS.less (by decide) h) (Or.inl ⟨by rfl, ?_⟩) (fun _ => k0) ?_
  · intro u hu
    have hr0 : RowAt u u2.heap.size 0 [.int .i64 x.1, .int .i64 x.2] := hu.row (by simp)
    have c0_0 := (hr0.at 0 rfl).1
    have c0_1 := (hr0.at 1 rfl).1
    have hr1 : RowAt u (u2.heap.size + 1) 0 [.int .i64 y.1, .int .i64 y.2] := hu.row (by simp)
    have c1_0 := (hr1.at 0 rfl).1
    have c1_1 := (hr1.at 1 rfl).1
    have hr2 : RowAt u u4.heap.size 0 [.int .i64 x'.1, .int .i64 x'.2] := hu.row (by simp)
    have c2_0 := (hr2.at 0 rfl).1
    have c2_1 := (hr2.at 1 rfl).1
    have hr3 : RowAt u (u4.heap.size + 1) 0 [.int .i64 y'.1, .int .i64 y'.2] := hu.row (by simp)
    have c3_0 := (hr3.at 0 rfl).1
    have c3_1 := (hr3.at 1 rfl).1
    have hr4 : RowAt u w.heap.size 0 [.int .i64 x.1, .int .i64 x.2, .int .i64 y.1, .int .i64 y.2, .int .i64 z.1, .int .i64 z.2] := hu.row (by simp)
    have c4_0 := (hr4.at 0 rfl).1
    have c4_1 := (hr4.at 1 rfl).1
    have c4_2 := (hr4.at 2 rfl).1
    have c4_3 := (hr4.at 3 rfl).1
    have c4_4 := (hr4.at 4 rfl).1
    have c4_5 := (hr4.at 5 rfl).1
    have hr5 : RowAt u (w.heap.size + 1) 0 [.int .i64 x'.1, .int .i64 x'.2, .int .i64 y'.1, .int .i64 y'.2, .int .i64 z'.1, .int .i64 z'.2] := hu.row (by simp)
    have c5_0 := (hr5.at 0 rfl).1
    have c5_1 := (hr5.at 1 rfl).1
    have c5_2 := (hr5.at 2 rfl).1
    have c5_3 := (hr5.at 3 rfl).1
    have c5_4 := (hr5.at 4 rfl).1
    have c5_5 := (hr5.at 5 rfl).1
    have hr6 : RowAt u (w.heap.size + 1 + 1) 0 [.int .i64 0, .int .i64 0, .int .i64 0, .int .i64 0, .int .i64 0, .int .i64 0] := hu.row (by simp)
    have c6_0 := (hr6.at 0 rfl).1
    have c6_1 := (hr6.at 1 rfl).1
    have c6_2 := (hr6.at 2 rfl).1
    have c6_3 := (hr6.at 3 rfl).1
    have c6_4 := (hr6.at 4 rfl).1
    have c6_5 := (hr6.at 5 rfl).1
    have hr7 : RowAt u (w.heap.size + 1 + 1 + 1) 0 [.int .i64 c0.1, .int .i64 c0.2, .int .i64 c1.1, .int .i64 c1.2, .int .i64 0, .int .i64 0] := hu.row (by simp)
    have c7_0 := (hr7.at 0 rfl).1
    have c7_1 := (hr7.at 1 rfl).1
    have c7_2 := (hr7.at 2 rfl).1
    have c7_3 := (hr7.at 3 rfl).1
    have c7_4 := (hr7.at 4 rfl).1
    have c7_5 := (hr7.at 5 rfl).1
    clear hu
    go_simp
  try simp only [Act.put, List.getElem_toArray, List.getElem_cons_zero, List.getElem_cons_succ, List.setIfInBounds_toArray, List.set_cons_zero, List.set_cons_succ]
  refine AnyS.take (i := 2) (v := .agg #[.int .i64 y'.1, .int .i64 y'.2]) (T := RowsK w [(u2.heap.size, [.int .i64 x.1, .int .i64 x.2]), (u2.heap.size + 1, [.int .i64 y.1, .int .i64 y.2]), (u4.heap.size, [.int .i64 x'.1, .int .i64 x'.2]), (u4.heap.size + 1, [.int .i64 y'.1, .int .i64 y'.2]), (w.heap.size, [.int .i64 x.1, .int .i64 x.2, .int .i64 y.1, .int .i64 y.2, .int .i64 z.1, .int .i64 z.2]), (w.heap.size + 1, [.int .i64 x'.1, .int .i64 x'.2, .int .i64 y'.1, .int .i64 y'.2, .int .i64 z'.1, .int .i64 z'.2]), (w.heap.size + 1 + 1, [.int .i64 0, .int .i64 0, .int .i64 0, .int .i64 0, .int .i64 0, .int .i64 0]), (w.heap.size + 1 + 1 + 1, [.int .i64 c0.1, .int .i64 c0.2, .int .i64 c1.1, .int .i64 c1.2, .int .i64 0, .int .i64 0])] (fun _ => True)) [9] rfl (by kernel_rfl) (by kernel_rfl) (by kernel_rfl) (by kernel_rfl) (by kernel_rfl) (fun _ _ _ h => h) (fun L u q h => h (q 9 (by simp))) (fun L u h => OneS.less (by decide) h) (Or.inl ⟨by rfl, ?_⟩) (fun _ => k0) ?_
  · intro u hu
    have hr0 : RowAt u u2.heap.size 0 [.int .i64 x.1, .int .i64 x.2] := hu.row (by simp)
    have c0_0 := (hr0.at 0 rfl).1
    have c0_1 := (hr0.at 1 rfl).1
    have hr1 : RowAt u (u2.heap.size + 1) 0 [.int .i64 y.1, .int .i64 y.2] := hu.row (by simp)
    have c1_0 := (hr1.at 0 rfl).1
    have c1_1 := (hr1.at 1 rfl).1
    have hr2 : RowAt u u4.heap.size 0 [.int .i64 x'.1, .int .i64 x'.2] := hu.row (by simp)
    have c2_0 := (hr2.at 0 rfl).1
    have c2_1 := (hr2.at 1 rfl).1
    have hr3 : RowAt u (u4.heap.size + 1) 0 [.int .i64 y'.1, .int .i64 y'.2] := hu.row (by simp)
    have c3_0 := (hr3.at 0 rfl).1
    have c3_1 := (hr3.at 1 rfl).1
    have hr4 : RowAt u w.heap.size 0 [.int .i64 x.1, .int .i64 x.2, .int .i64 y.1, .int .i64 y.2, .int .i64 z.1, .int .i64 z.2] := hu.row (by simp)
    have c4_0 := (hr4.at 0 rfl).1
    have c4_1 := (hr4.at 1 rfl).1
    have c4_2 := (hr4.at 2 rfl).1
    have c4_3 := (hr4.at 3 rfl).1
    have c4_4 := (hr4.at 4 rfl).1
    have c4_5 := (hr4.at 5 rfl).1
    have hr5 : RowAt u (w.heap.size + 1) 0 [.int .i64 x'.1, .int .i64 x'.2, .int .i64 y'.1, .int .i64 y'.2, .int .i64 z'.1, .int .i64 z'.2] := hu.row (by simp)
    have c5_0 := (hr5.at 0 rfl).1
    have c5_1 := (hr5.at 1 rfl).1
    have c5_2 := (hr5.at 2 rfl).1
    have c5_3 := (hr5.at 3 rfl).1
    have c5_4 := (hr5.at 4 rfl).1
    have c5_5 := (hr5.at 5 rfl).1
    have hr6 : RowAt u (w.heap.size + 1 + 1) 0 [.int .i64 0, .int .i64 0, .int .i64 0, .int .i64 0, .int .i64 0, .int .i64 0] := hu.row (by simp)
    have c6_0 := (hr6.at 0 rfl).1
    have c6_1 := (hr6.at 1 rfl).1
    have c6_2 := (hr6.at 2 rfl).1
    have c6_3 := (hr6.at 3 rfl).1
    have c6_4 := (hr6.at 4 rfl).1
    have c6_5 := (hr6.at 5 rfl).1
    have hr7 : RowAt u (w.heap.size + 1 + 1 + 1) 0 [.int .i64 c0.1, .int .i64 c0.2, .int .i64 c1.1, .int .i64 c1.2, .int .i64 0, .int .i64 0] := hu.row (by simp)
    have c7_0 := (hr7.at 0 rfl).1
    have c7_1 := (hr7.at 1 rfl).1
    have c7_2 := (hr7.at 2 rfl).1
    have c7_3 := (hr7.at 3 rfl).1
    have c7_4 := (hr7.at 4 rfl).1
    have c7_5 := (hr7.at 5 rfl).1
    clear hu
    go_simp
  try simp only [Act.put, List.getElem_toArray, List.getElem_cons_zero, List.getElem_cons_succ, List.setIfInBounds_toArray, List.set_cons_zero, List.set_cons_succ]
  refine AnyS.take (i := 4) (v := .agg #[.int .i64 y.1, .int .i64 y.2]) (T := RowsK w [(u2.heap.size, [.int .i64 x.1, .int .i64 x.2]), (u2.heap.size + 1, [.int .i64 y.1, .int .i64 y.2]), (u4.heap.size, [.int .i64 x'.1, .int .i64 x'.2]), (u4.heap.size + 1, [.int .i64 y'.1, .int .i64 y'.2]), (w.heap.size, [.int .i64 x.1, .int .i64 x.2, .int .i64 y.1, .int .i64 y.2, .int .i64 z.1, .int .i64 z.2]), (w.heap.size + 1, [.int .i64 x'.1, .int .i64 x'.2, .int .i64 y'.1, .int .i64 y'.2, .int .i64 z'.1, .int .i64 z'.2]), (w.heap.size + 1 + 1, [.int .i64 0, .int .i64 0, .int .i64 0, .int .i64 0, .int .i64 0, .int .i64 0]), (w.heap.size + 1 + 1 + 1, [.int .i64 c0.1, .int .i64 c0.2, .int .i64 c1.1, .int .i64 c1.2, .int .i64 0, .int .i64 0])] (fun _ => True)) [9] rfl (by kernel_rfl) (by kernel_rfl) (by kernel_rfl) (by kernel_rfl) (by kernel_rfl) (fun _ _ _ h => h) (fun L u q h => h (q 9 (by simp))) (fun L u h => OneS.less (by decide) h) (Or.inl ⟨by rfl, ?_⟩) (fun _ => k0) ?_
  · intro u hu
    have hr0 : RowAt u u2.heap.size 0 [.int .i64 x.1, .int .i64 x.2] := hu.row (by simp)
    have c0_0 := (hr0.at 0 rfl).1
    have c0_1 := (hr0.at 1 rfl).1
    have hr1 : RowAt u (u2.heap.size + 1) 0 [.int .i64 y.1, .int .i64 y.2] := hu.row (by simp)
    have c1_0 := (hr1.at 0 rfl).1
    have c1_1 := (hr1.at 1 rfl).1
    have hr2 : RowAt u u4.heap.size 0 [.int .i64 x'.1, .int .i64 x'.2] := hu.row (by simp)
    have c2_0 := (hr2.at 0 rfl).1
    have c2_1 := (hr2.at 1 rfl).1
    have hr3 : RowAt u (u4.heap.size + 1) 0 [.int .i64 y'.1, .int .i64 y'.2] := hu.row (by simp)
    have c3_0 := (hr3.at 0 rfl).1
    have c3_1 := (hr3.at 1 rfl).1
    have hr4 : RowAt u w.heap.size 0 [.int .i64 x.1, .int .i64 x.2, .int .i64 y.1, .int .i64 y.2, .int .i64 z.1, .int .i64 z.2] := hu.row (by simp)
    have c4_0 := (hr4.at 0 rfl).1
    have c4_1 := (hr4.at 1 rfl).1
    have c4_2 := (hr4.at 2 rfl).1
    have c4_3 := (hr4.at 3 rfl).1
    have c4_4 := (hr4.at 4 rfl).1
    have c4_5 := (hr4.at 5 rfl).1
    have hr5 : RowAt u (w.heap.size + 1) 0 [.int .i64 x'.1, .int .i64 x'.2, .int .i64 y'.1, .int .i64 y'.2, .int .i64 z'.1, .int .i64 z'.2] := hu.row (by simp)
    have c5_0 := (hr5.at 0 rfl).1
    have c5_1 := (hr5.at 1 rfl).1
    have c5_2 := (hr5.at 2 rfl).1
    have c5_3 := (hr5.at 3 rfl).1
    have c5_4 := (hr5.at 4 rfl).1
    have c5_5 := (hr5.at 5 rfl).1
    have hr6 : RowAt u (w.heap.size + 1 + 1) 0 [.int .i64 0, .int .i64 0, .int .i64 0, .int .i64 0, .int .i64 0, .int .i64 0] := hu.row (by simp)
    have c6_0 := (hr6.at 0 rfl).1
    have c6_1 := (hr6.at 1 rfl).1
    have c6_2 := (hr6.at 2 rfl).1
    have c6_3 := (hr6.at 3 rfl).1
    have c6_4 := (hr6.at 4 rfl).1
    have c6_5 := (hr6.at 5 rfl).1
    have hr7 : RowAt u (w.heap.size + 1 + 1 + 1) 0 [.int .i64 c0.1, .int .i64 c0.2, .int .i64 c1.1, .int .i64 c1.2, .int .i64 0, .int .i64 0] := hu.row (by simp)
    have c7_0 := (hr7.at 0 rfl).1
    have c7_1 := (hr7.at 1 rfl).1
    have c7_2 := (hr7.at 2 rfl).1
    have c7_3 := (hr7.at 3 rfl).1
    have c7_4 := (hr7.at 4 rfl).1
    have c7_5 := (hr7.at 5 rfl).1
    clear hu
    go_simp
  try simp only [Act.put, List.getElem_toArray, List.getElem_cons_zero, List.getElem_cons_succ, List.setIfInBounds_toArray, List.set_cons_zero, List.set_cons_succ]
  refine AnyS.take (i := 5) (v := .agg #[.int .i64 x'.1, .int .i64 x'.2]) (T := RowsK w [(u2.heap.size, [.int .i64 x.1, .int .i64 x.2]), (u2.heap.size + 1, [.int .i64 y.1, .int .i64 y.2]), (u4.heap.size, [.int .i64 x'.1, .int .i64 x'.2]), (u4.heap.size + 1, [.int .i64 y'.1, .int .i64 y'.2]), (w.heap.size, [.int .i64 x.1, .int .i64 x.2, .int .i64 y.1, .int .i64 y.2, .int .i64 z.1, .int .i64 z.2]), (w.heap.size + 1, [.int .i64 x'.1, .int .i64 x'.2, .int .i64 y'.1, .int .i64 y'.2, .int .i64 z'.1, .int .i64 z'.2]), (w.heap.size + 1 + 1, [.int .i64 0, .int .i64 0, .int .i64 0, .int .i64 0, .int .i64 0, .int .i64 0]), (w.heap.size + 1 + 1 + 1, [.int .i64 c0.1, .int .i64 c0.2, .int .i64 c1.1, .int .i64 c1.2, .int .i64 0, .int .i64 0])] (fun _ => True)) [9] rfl (by kernel_rfl) (by kernel_rfl) (by kernel_rfl) (by kernel_rfl) (by kernel_rfl) (fun _ _ _ h => h) (fun L u q h => h (q 9 (by simp))) (fun L u h => OneS.less (by decide) h) (Or.inl ⟨by rfl, ?_⟩) (fun _ => k0) ?_
  · intro u hu
    have hr0 : RowAt u u2.heap.size 0 [.int .i64 x.1, .int .i64 x.2] := hu.row (by simp)
    have c0_0 := (hr0.at 0 rfl).1
    have c0_1 := (hr0.at 1 rfl).1
    have hr1 : RowAt u (u2.heap.size + 1) 0 [.int .i64 y.1, .int .i64 y.2] := hu.row (by simp)
    have c1_0 := (hr1.at 0 rfl).1
    have c1_1 := (hr1.at 1 rfl).1
    have hr2 : RowAt u u4.heap.size 0 [.int .i64 x'.1, .int .i64 x'.2] := hu.row (by simp)
    have c2_0 := (hr2.at 0 rfl).1
    have c2_1 := (hr2.at 1 rfl).1
    have hr3 : RowAt u (u4.heap.size + 1) 0 [.int .i64 y'.1, .int .i64 y'.2] := hu.row (by simp)
    have c3_0 := (hr3.at 0 rfl).1
    have c3_1 := (hr3.at 1 rfl).1
    have hr4 : RowAt u w.heap.size 0 [.int .i64 x.1, .int .i64 x.2, .int .i64 y.1, .int .i64 y.2, .int .i64 z.1, .int .i64 z.2] := hu.row (by simp)
    have c4_0 := (hr4.at 0 rfl).1
    have c4_1 := (hr4.at 1 rfl).1
    have c4_2 := (hr4.at 2 rfl).1
    have c4_3 := (hr4.at 3 rfl).1
    have c4_4 := (hr4.at 4 rfl).1
    have c4_5 := (hr4.at 5 rfl).1
    have hr5 : RowAt u (w.heap.size + 1) 0 [.int .i64 x'.1, .int .i64 x'.2, .int .i64 y'.1, .int .i64 y'.2, .int .i64 z'.1, .int .i64 z'.2] := hu.row (by simp)
    have c5_0 := (hr5.at 0 rfl).1
    have c5_1 := (hr5.at 1 rfl).1
    have c5_2 := (hr5.at 2 rfl).1
    have c5_3 := (hr5.at 3 rfl).1
    have c5_4 := (hr5.at 4 rfl).1
    have c5_5 := (hr5.at 5 rfl).1
    have hr6 : RowAt u (w.heap.size + 1 + 1) 0 [.int .i64 0, .int .i64 0, .int .i64 0, .int .i64 0, .int .i64 0, .int .i64 0] := hu.row (by simp)
    have c6_0 := (hr6.at 0 rfl).1
    have c6_1 := (hr6.at 1 rfl).1
    have c6_2 := (hr6.at 2 rfl).1
    have c6_3 := (hr6.at 3 rfl).1
    have c6_4 := (hr6.at 4 rfl).1
    have c6_5 := (hr6.at 5 rfl).1
    have hr7 : RowAt u (w.heap.size + 1 + 1 + 1) 0 [.int .i64 c0.1, .int .i64 c0.2, .int .i64 c1.1, .int .i64 c1.2, .int .i64 0, .int .i64 0] := hu.row (by simp)
    have c7_0 := (hr7.at 0 rfl).1
    have c7_1 := (hr7.at 1 rfl).1
    have c7_2 := (hr7.at 2 rfl).1
    have c7_3 := (hr7.at 3 rfl).1
    have c7_4 := (hr7.at 4 rfl).1
    have c7_5 := (hr7.at 5 rfl).1
    clear hu
    go_simp
  try simp only [Act.put, List.getElem_toArray, List.getElem_cons_zero, List.getElem_cons_succ, List.setIfInBounds_toArray, List.set_cons_zero, List.set_cons_succ]
  refine AnyS.std (n := 2) [(3, 31, .agg #[.int .i64 (mulI x y').1, .int .i64 (mulI x y').2]), (6, 34, .agg #[.int .i64 (mulI y x').1, .int .i64 (mulI y x').2]), (7, 35, .agg #[.int .i64 c2.1, .int .i64 c2.2])] [] (RowsK w [(u2.heap.size, [.int .i64 x.1, .int .i64 x.2]), (u2.heap.size + 1, [.int .i64 y.1, .int .i64 y.2]), (u4.heap.size, [.int .i64 x'.1, .int .i64 x'.2]), (u4.heap.size + 1, [.int .i64 y'.1, .int .i64 y'.2]), (w.heap.size, [.int .i64 x.1, .int .i64 x.2, .int .i64 y.1, .int .i64 y.2, .int .i64 z.1, .int .i64 z.2]), (w.heap.size + 1, [.int .i64 x'.1, .int .i64 x'.2, .int .i64 y'.1, .int .i64 y'.2, .int .i64 z'.1, .int .i64 z'.2]), (w.heap.size + 1 + 1, [.int .i64 0, .int .i64 0, .int .i64 0, .int .i64 0, .int .i64 0, .int .i64 0]), (w.heap.size + 1 + 1 + 1, [.int .i64 c0.1, .int .i64 c0.2, .int .i64 c1.1, .int .i64 c1.2, .int .i64 0, .int .i64 0])] (fun _ => True)) (wd.heap.size) (fun u u' h hb => h.kept (fun _ _ h _ => h) hb) (by kernel_rfl) (by kernel_rfl) (by kernel_rfl) (by kernel_rfl) (fun u L h _ => h) k0 (Nat.le_refl _) ?_ ?_ ?_
  · intro c hc t u ku lu hp
    simp only [List.mem_cons, List.not_mem_nil, or_false] at hc
    rcases hc with rfl | rfl | rfl
    · clear hp
      simp only [LatC.op, LatC.dst, LatC.val, LatB.op, LatB.dst, LatB.zs, LatB.ty, List.map, List.cons_append, List.nil_append, putA, Act.put, List.setIfInBounds_toArray, List.set_cons_zero, List.set_cons_succ]
      refine wpOp_step rfl (fun K' hK' => ?_)
      have hK := Lib.hid hK'
      clear hK'
      go_simp
      with_reducible refine (MulI_any x y' ox oy' _).mono ?_
      rintro _ u1 ⟨rfl, hb1⟩
      go_wp2_with fail
      exact hK.out _ _ ⟨rfl, hb1⟩
    · clear hp
      simp only [LatC.op, LatC.dst, LatC.val, LatB.op, LatB.dst, LatB.zs, LatB.ty, List.map, List.cons_append, List.nil_append, putA, Act.put, List.setIfInBounds_toArray, List.set_cons_zero, List.set_cons_succ]
      refine wpOp_step rfl (fun K' hK' => ?_)
      have hK := Lib.hid hK'
      clear hK'
      go_simp
      with_reducible refine (MulI_any y x' oy ox' _).mono ?_
      rintro _ u1 ⟨rfl, hb1⟩
      go_wp2_with fail
      exact hK.out _ _ ⟨rfl, hb1⟩
    · have q31 : t 31 = .agg #[.int .i64 (mulI x y').1, .int .i64 (mulI x y').2] := hp (3, 31, .agg #[.int .i64 (mulI x y').1, .int .i64 (mulI x y').2]) (by simp) (by kernel_rfl)
      have q34 : t 34 = .agg #[.int .i64 (mulI y x').1, .int .i64 (mulI y x').2] := hp (6, 34, .agg #[.int .i64 (mulI y x').1, .int .i64 (mulI y x').2]) (by simp) (by kernel_rfl)
      clear hp
      simp only [LatC.op, LatC.dst, LatC.val, LatB.op, LatB.dst, LatB.zs, LatB.ty, List.map, List.cons_append, List.nil_append, putA, Act.put, List.setIfInBounds_toArray, List.set_cons_zero, List.set_cons_succ]
      simp only [q31]
      simp only [q34]
      refine wpOp_step rfl (fun K' hK' => ?_)
      have hK := Lib.hid hK'
      clear hK'
      go_simp
      with_reducible refine (SC2.out _).mono ?_
      rintro _ u1 ⟨rfl, hb1⟩
      go_wp2_with fail
      exact hK.out _ _ ⟨rfl, hb1⟩
  · intro b hb; cases hb
  intro t u g ku lu hcs hbs hne
  have t31 : t 31 = .agg #[.int .i64 (mulI x y').1, .int .i64 (mulI x y').2] := hcs (3, 31, .agg #[.int .i64 (mulI x y').1, .int .i64 (mulI x y').2]) (by simp)
  have t34 : t 34 = .agg #[.int .i64 (mulI y x').1, .int .i64 (mulI y x').2] := hcs (6, 34, .agg #[.int .i64 (mulI y x').1, .int .i64 (mulI y x').2]) (by simp)
  have t35 : t 35 = .agg #[.int .i64 c2.1, .int .i64 c2.2] := hcs (7, 35, .agg #[.int .i64 c2.1, .int .i64 c2.2]) (by simp)
  clear hcs hbs hne
  simp only [LatC.op, LatC.dst, LatC.val, LatB.op, LatB.dst, LatB.zs, LatB.ty, List.map, List.cons_append, List.nil_append, setL, if_true, putA, Act.put, List.setIfInBounds_toArray, List.set_cons_zero, List.set_cons_succ, t31, t34, t35]
  clear t31 t34 t35
  refine AnyS.take (i := 8) (v := .pointer (some ⟨w.heap.size + 1 + 1 + 1, 4, none⟩)) (T := fun _ => True) [] rfl (by kernel_rfl) (by kernel_rfl) (by kernel_rfl) (by kernel_rfl) (by kernel_rfl) (fun _ _ _ h => h) (fun L u q h => trivial) (fun L u h => OneS.less (by decide) h) (Or.inl ⟨by rfl, ?_⟩) (fun _ => ku) ?_
  · intro u hu
    clear hu
    go_simp
  try simp only [Act.put, List.getElem_toArray, List.getElem_cons_zero, List.getElem_cons_succ, List.setIfInBounds_toArray, List.set_cons_zero, List.set_cons_succ]
  have rp : RowAt u (w.heap.size + 1 + 1 + 1) 0 [.int .i64 c0.1, .int .i64 c0.2, .int .i64 c1.1, .int .i64 c1.2, .int .i64 0, .int .i64 0] := ku.row (by simp)
  have ra : RowAt u (w.heap.size) 0 [.int .i64 x.1, .int .i64 x.2, .int .i64 y.1, .int .i64 y.2, .int .i64 z.1, .int .i64 z.2] := ku.row (by simp)
  have rb : RowAt u (w.heap.size + 1) 0 [.int .i64 x'.1, .int .i64 x'.2, .int .i64 y'.1, .int .i64 y'.2, .int .i64 z'.1, .int .i64 z'.2] := ku.row (by simp)
  have rr : RowAt u (w.heap.size + 1 + 1) 0 [.int .i64 0, .int .i64 0, .int .i64 0, .int .i64 0, .int .i64 0, .int .i64 0] := ku.row (by simp)
  have bw := ku.2.2
  have sc0 := (rp.at 4 rfl).1
  have sc1 := (rp.at 5 rfl).1
  have sf0 := (rp.at 4 rfl).2
  have sf1 := (rp.at 5 rfl).2
  refine AnyS.one (i := 9) (by kernel_rfl) (AnyS.comes rfl (fun K hK => ?_))
  go_simp
  refine hK.out _ _ (fun h => absurd h (by decide)) ?_
  clear hK K
  try simp only [Act.put, List.getElem_toArray, List.getElem_cons_zero, List.getElem_cons_succ, List.setIfInBounds_toArray, List.set_cons_zero, List.set_cons_succ]
  refine AnyS.done (by kernel_rfl) ?_ _
  clear sc0 sc1 sf0 sf1 ku lu k0 lw lt0 lt1 lt2 lt3 lt4 lt5 lt6 lt7 lp l2
  go_wp2_with fail
  obtain ⟨v2, hv⟩ : ∃ q : World, q = (u.setCell ⟨w.heap.size + 1 + 1 + 1, 4, none⟩ (.int .i64 c2.1)).setCell ⟨w.heap.size + 1 + 1 + 1, 5, none⟩ (.int .i64 c2.2) := ⟨_, rfl⟩
  rw [← hv]
  replace rp : RowAt v2 (w.heap.size + 1 + 1 + 1) 0 [.int .i64 c0.1, .int .i64 c0.2, .int .i64 c1.1, .int .i64 c1.2, .int .i64 c2.1, .int .i64 c2.2] := by rw [hv]; exact (row_cons (own_next (by decide) (own_next (by decide) (rp.at 0 rfl))) (row_cons (own_next (by decide) (own_next (by decide) (rp.at 1 rfl))) (row_cons (own_next (by decide) (own_next (by decide) (rp.at 2 rfl))) (row_cons (own_next (by decide) (own_next (by decide) (rp.at 3 rfl))) (row_cons (own_next (by decide) (own_put (rp.at 4 rfl))) (row_cons (own_put (own_next (by decide) (rp.at 5 rfl))) row_nil))))))
  replace ra := RowAt.set2 hv (by dsimp only; omega) (by dsimp only; omega) ra
  replace rb := RowAt.set2 hv (by dsimp only; omega) (by dsimp only; omega) rb
  replace rr := RowAt.set2 hv (by dsimp only; omega) (by dsimp only; omega) rr
  replace bw : Below w.heap.size w v2 := by rw [hv]; exact (bw.setCell (by dsimp only; omega) _).setCell (by dsimp only; omega) _
  clear hv
  rw [rounds_succ]
  have q0 := (rp.at 0 rfl).1
  have q1 := (rp.at 1 rfl).1
  have q2 := (rp.at 2 rfl).1
  have q3 := (rp.at 3 rfl).1
  have q4 := (rp.at 4 rfl).1
  have q5 := (rp.at 5 rfl).1
  go_wp2_with fail
  refine (vec_any c0 c1 c2 _).mono ?_
  rintro e u5 ⟨rfl, hb⟩
  replace rr := rr.kept hb
  replace bw := bw.trans (hb.mono bw.size)
  clear hb q0 q1 q2 q3 q4 q5
  have q0 := (rr.at 0 rfl).1
  have q1 := (rr.at 1 rfl).1
  have q2 := (rr.at 2 rfl).1
  have q3 := (rr.at 3 rfl).1
  have q4 := (rr.at 4 rfl).1
  have q5 := (rr.at 5 rfl).1
  have f0 := (rr.at 0 rfl).2
  have f1 := (rr.at 1 rfl).2
  have f2 := (rr.at 2 rfl).2
  have f3 := (rr.at 3 rfl).2
  have f4 := (rr.at 4 rfl).2
  have f5 := (rr.at 5 rfl).2
  go_wp2
  exact bodyPost_ret (v := .agg #[.int .i64 c0.1, .int .i64 c0.2, .int .i64 c1.1, .int .i64 c1.2, .int .i64 c2.1, .int .i64 c2.2]) (by simp [results, Try.results66, go_sem, q0, q1, q2, q3, q4, q5]) rfl ⟨rfl, belS⟩
end Go.Proofs.Ytmikjgbojknlnaa
