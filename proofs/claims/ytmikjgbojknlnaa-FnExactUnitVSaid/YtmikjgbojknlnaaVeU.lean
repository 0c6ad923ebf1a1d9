/- Contract of lengths of vectors in the program. Conditions: numbers are int64. -/
import Derived.Test.YtmikjgbojknlnaaVeT
import Derived.Test.YtmikjgbojknlnaaIvT
import Derived.Test.YtmikjgbojknlnaaNumP
import Derived.Test.YtmikjgbojknlnaaLat
import Derived.Deep.DeepCutAuto
import Derived.LoopN
import Derived.Handy
import Derived.Outline
namespace Go.Proofs.Ytmikjgbojknlnaa
open Go.ChangeShapes Go.WideShapes Go.ChangeAt Go.RowKit
set_option linter.unusedVariables false
set_option maxRecDepth 100000
set_option linter.unusedSimpArgs false
set_option maxHeartbeats 1000000
def s3 (a b c : Int) : Int := a * a + b * b + c * c
/-- The length of a vector. -/
def nrmI (x y z : Iv) : Iv := kn (resB true (sqW (s3 (absI x).1 (absI y).1 (absI z).1)) && resB true (sqU (s3 (absI x).2 (absI y).2 (absI z).2))) (resI true (sqW (s3 (absI x).1 (absI y).1 (absI z).1)), resI true (sqU (s3 (absI x).2 (absI y).2 (absI z).2)))
theorem absF_in (x : Iv) : InF (absI x).1 ∧ InF (absI x).2 := by
  have h := res_in' (absI_res x)
  unfold InI at h; unfold InF; omega
theorem s3_in {a b c : Int} (ha : InF a) (hb : InF b) (hc : InF c) : InW (s3 a b c) ∧ s3 a b c < 21267647932558653966460912964485513216 ∧ sqOk (s3 a b c) = true := by
  obtain ⟨s0, t0⟩ := sq_in ha
  obtain ⟨s1, t1⟩ := sq_in hb
  obtain ⟨s2, t2⟩ := sq_in hc
  unfold s3 sqOk InW
  refine ⟨by omega, by omega, decide_eq_true (by omega)⟩
set_option maxHeartbeats 16000000 in
theorem NormV_any (x y z : Iv) (w : World) : Calls Try.prog 68 #[.agg #[.int .i64 x.1, .int .i64 x.2, .int .i64 y.1, .int .i64 y.2, .int .i64 z.1, .int .i64 z.2]] w fun e w' =>
    e = .returned (.agg #[.int .i64 (nrmI x y z).1, .int .i64 (nrmI x y z).2]) ∧ Below w.heap.size w w' := by
  obtain ⟨p1, p2⟩ := absF_in x
  obtain ⟨q1, q2⟩ := absF_in y
  obtain ⟨r1, r2⟩ := absF_in z
  have AX := Lib.hid (fun w => AbsI_any x w)
  have AY := Lib.hid (fun w => AbsI_any y w)
  have AZ := Lib.hid (fun w => AbsI_any z w)
  unfold nrmI
  generalize absI x = p at *
  generalize absI y = q at *
  generalize absI z = r at *
  have L1 := Lib.hid (fun (b : Nat) (w : World) h => lengthOf3 p.1 q.1 r.1 p1 q1 r1 b w h)
  have L2 := Lib.hid (fun (b : Nat) (w : World) h => lengthOf3 p.2 q.2 r.2 p2 q2 r2 b w h)
  have F1 := Lib.hid (fun w => fixOf_rdown (s3 p.1 q.1 r.1) (s3_in p1 q1 r1).1 (s3_in p1 q1 r1).2.1 w)
  rw [(s3_in p1 q1 r1).2.2] at F1
  have F2 := Lib.hid (fun w => fixOf_rup (s3 p.2 q.2 r.2) (s3_in p2 q2 r2).1 (s3_in p2 q2 r2).2.1 w)
  rw [(s3_in p2 q2 r2).2.2] at F2
  have e1 : p.1 * p.1 + q.1 * q.1 + r.1 * r.1 = s3 p.1 q.1 r.1 := rfl
  have e2 : p.2 * p.2 + q.2 * q.2 + r.2 * r.2 = s3 p.2 q.2 r.2 := rfl
  rw [e1] at L1
  rw [e2] at L2
  clear e1 e2 p1 p2 q1 q2 r1 r2
  generalize resI true (sqW (s3 p.1 q.1 r.1)) = l at *
  generalize resI true (sqU (s3 p.2 q.2 r.2)) = h at *
  generalize resB true (sqW (s3 p.1 q.1 r.1)) = bl at *
  generalize resB true (sqU (s3 p.2 q.2 r.2)) = bh at *
  generalize s3 p.1 q.1 r.1 = v1 at *
  generalize s3 p.2 q.2 r.2 = v2 at *
  have I := Lib.hid (fun (c : Bool) w => interval_any l h c w)
  go_enter Try.func68, Try.ntmps68
  go_upto_region 1 with fail
  refine AnyS.enter (K := RowsK w [(w.heap.size, [.int .i64 x.1, .int .i64 x.2, .int .i64 y.1, .int .i64 y.2, .int .i64 z.1, .int .i64 z.2]), (w.heap.size + 1, [.int .i64 0, .int .i64 0])] (fun _ => True)) (s := 12) (by kernel_rfl) ⟨?_, trivial, belS⟩ ?_
  · intro r hr
    simp only [List.mem_cons, List.not_mem_nil, or_false] at hr
    rcases hr with rfl | rfl
    all_goals (dsimp only; repeat (first | (with_reducible assumption) | (with_reducible exact RowAt.drew (by assumption)) | exact row_nil | refine row_cons (by first | (with_reducible assumption) | (with_reducible exact own_drew (by assumption)) | exact ⟨by simp [go_sem], by simp [go_sem]⟩) ?_))
  intro wd k0
  have lw : w.heap.size ≤ wd.heap.size := k0.2.2.size
  have lt0 : w.heap.size < wd.heap.size := World.block_lt_of_cell? _ _ (((k0.row (b := w.heap.size) (vs := [.int .i64 x.1, .int .i64 x.2, .int .i64 y.1, .int .i64 y.2, .int .i64 z.1, .int .i64 z.2]) (by simp)).at 0 rfl).1)
  have lt1 : w.heap.size + 1 < wd.heap.size := World.block_lt_of_cell? _ _ (((k0.row (b := w.heap.size + 1) (vs := [.int .i64 0, .int .i64 0]) (by simp)).at 0 rfl).1)
  refine AnyS.take (i := 0) (v := .pointer (some ⟨w.heap.size, 0, none⟩)) (T := fun _ => True) [] rfl (by kernel_rfl) (by kernel_rfl) (by kernel_rfl) (by kernel_rfl) (by kernel_rfl) (fun _ _ _ h => h) (fun L u q h => trivial) (fun L u h => OneS.less (by decide) h) (Or.inl ⟨by rfl, ?_⟩) (fun _ => k0) ?_
  · intro u hu
    clear hu
    go_simp
  try simp only [Act.put, List.getElem_toArray, List.getElem_cons_zero, List.getElem_cons_succ, List.setIfInBounds_toArray, List.set_cons_zero, List.set_cons_succ]
  refine AnyS.take (i := 1) (v := .agg #[.int .i64 x.1, .int .i64 x.2]) (T := RowsK w [(w.heap.size, [.int .i64 x.1, .int .i64 x.2, .int .i64 y.1, .int .i64 y.2, .int .i64 z.1, .int .i64 z.2]), (w.heap.size + 1, [.int .i64 0, .int .i64 0])] (fun _ => True)) [12, 2, 5, 8] rfl (by kernel_rfl) (by kernel_rfl) (by kernel_rfl) (by kernel_rfl) (by kernel_rfl) (fun _ _ _ h => h) (fun L u q h => h (q 12 (by simp))) (fun L u h => OneS.less (by decide) h) (Or.inl ⟨by rfl, ?_⟩) (fun _ => k0) ?_
  · intro u hu
    have hr0 : RowAt u w.heap.size 0 [.int .i64 x.1, .int .i64 x.2, .int .i64 y.1, .int .i64 y.2, .int .i64 z.1, .int .i64 z.2] := hu.row (by simp)
    have c0_0 := (hr0.at 0 rfl).1
    have c0_1 := (hr0.at 1 rfl).1
    have c0_2 := (hr0.at 2 rfl).1
    have c0_3 := (hr0.at 3 rfl).1
    have c0_4 := (hr0.at 4 rfl).1
    have c0_5 := (hr0.at 5 rfl).1
    have hr1 : RowAt u (w.heap.size + 1) 0 [.int .i64 0, .int .i64 0] := hu.row (by simp)
    have c1_0 := (hr1.at 0 rfl).1
    have c1_1 := (hr1.at 1 rfl).1
    clear hu
    go_simp
  try simp only [Act.put, List.getElem_toArray, List.getElem_cons_zero, List.getElem_cons_succ, List.setIfInBounds_toArray, List.set_cons_zero, List.set_cons_succ]
  refine AnyS.take (i := 3) (v := .pointer (some ⟨w.heap.size, 2, none⟩)) (T := fun _ => True) [] rfl (by kernel_rfl) (by kernel_rfl) (by kernel_rfl) (by kernel_rfl) (by kernel_rfl) (fun _ _ _ h => h) (fun L u q h => trivial) (fun L u h => OneS.less (by decide) h) (Or.inl ⟨by rfl, ?_⟩) (fun _ => k0) ?_
  · intro u hu
    clear hu
    go_simp
  try simp only [Act.put, List.getElem_toArray, List.getElem_cons_zero, List.getElem_cons_succ, List.setIfInBounds_toArray, List.set_cons_zero, List.set_cons_succ]
  refine AnyS.take (i := 4) (v := .agg #[.int .i64 y.1, .int .i64 y.2]) (T := RowsK w [(w.heap.size, [.int .i64 x.1, .int .i64 x.2, .int .i64 y.1, .int .i64 y.2, .int .i64 z.1, .int .i64 z.2]), (w.heap.size + 1, [.int .i64 0, .int .i64 0])] (fun _ => True)) [12, 5, 8] rfl (by kernel_rfl) (by kernel_rfl) (by kernel_rfl) (by kernel_rfl) (by kernel_rfl) (fun _ _ _ h => h) (fun L u q h => h (q 12 (by simp))) (fun L u h => OneS.less (by decide) h) (Or.inl ⟨by rfl, ?_⟩) (fun _ => k0) ?_
  · intro u hu
    have hr0 : RowAt u w.heap.size 0 [.int .i64 x.1, .int .i64 x.2, .int .i64 y.1, .int .i64 y.2, .int .i64 z.1, .int .i64 z.2] := hu.row (by simp)
    have c0_0 := (hr0.at 0 rfl).1
    have c0_1 := (hr0.at 1 rfl).1
    have c0_2 := (hr0.at 2 rfl).1
    have c0_3 := (hr0.at 3 rfl).1
    have c0_4 := (hr0.at 4 rfl).1
    have c0_5 := (hr0.at 5 rfl).1
    have hr1 : RowAt u (w.heap.size + 1) 0 [.int .i64 0, .int .i64 0] := hu.row (by simp)
    have c1_0 := (hr1.at 0 rfl).1
    have c1_1 := (hr1.at 1 rfl).1
    clear hu
    go_simp
  try simp only [Act.put, List.getElem_toArray, List.getElem_cons_zero, List.getElem_cons_succ, List.setIfInBounds_toArray, List.set_cons_zero, List.set_cons_succ]
  refine AnyS.take (i := 6) (v := .pointer (some ⟨w.heap.size, 4, none⟩)) (T := fun _ => True) [] rfl (by kernel_rfl) (by kernel_rfl) (by kernel_rfl) (by kernel_rfl) (by kernel_rfl) (fun _ _ _ h => h) (fun L u q h => trivial) (fun L u h => OneS.less (by decide) h) (Or.inl ⟨by rfl, ?_⟩) (fun _ => k0) ?_
  · intro u hu
    clear hu
    go_simp
  try simp only [Act.put, List.getElem_toArray, List.getElem_cons_zero, List.getElem_cons_succ, List.setIfInBounds_toArray, List.set_cons_zero, List.set_cons_succ]
  refine AnyS.take (i := 7) (v := .agg #[.int .i64 z.1, .int .i64 z.2]) (T := RowsK w [(w.heap.size, [.int .i64 x.1, .int .i64 x.2, .int .i64 y.1, .int .i64 y.2, .int .i64 z.1, .int .i64 z.2]), (w.heap.size + 1, [.int .i64 0, .int .i64 0])] (fun _ => True)) [12, 8] rfl (by kernel_rfl) (by kernel_rfl) (by kernel_rfl) (by kernel_rfl) (by kernel_rfl) (fun _ _ _ h => h) (fun L u q h => h (q 12 (by simp))) (fun L u h => OneS.less (by decide) h) (Or.inl ⟨by rfl, ?_⟩) (fun _ => k0) ?_
  · intro u hu
    have hr0 : RowAt u w.heap.size 0 [.int .i64 x.1, .int .i64 x.2, .int .i64 y.1, .int .i64 y.2, .int .i64 z.1, .int .i64 z.2] := hu.row (by simp)
    have c0_0 := (hr0.at 0 rfl).1
    have c0_1 := (hr0.at 1 rfl).1
    have c0_2 := (hr0.at 2 rfl).1
    have c0_3 := (hr0.at 3 rfl).1
    have c0_4 := (hr0.at 4 rfl).1
    have c0_5 := (hr0.at 5 rfl).1
    have hr1 : RowAt u (w.heap.size + 1) 0 [.int .i64 0, .int .i64 0] := hu.row (by simp)
    have c1_0 := (hr1.at 0 rfl).1
    have c1_1 := (hr1.at 1 rfl).1
    clear hu
    go_simp
  try simp only [Act.put, List.getElem_toArray, List.getElem_cons_zero, List.getElem_cons_succ, List.setIfInBounds_toArray, List.set_cons_zero, List.set_cons_succ]
  refine AnyS.std (n := 3) [(2, 12, .agg #[.int .i64 p.1, .int .i64 p.2]), (5, 15, .agg #[.int .i64 q.1, .int .i64 q.2]), (8, 18, .agg #[.int .i64 r.1, .int .i64 r.2])] [(9, 3, [.int .i64 0, .int .i64 0], 31), (10, 4, [.int .i64 0, .int .i64 0], 31), (11, 5, [.int .i64 0, .int .i64 0], 31)] (RowsK w [(w.heap.size, [.int .i64 x.1, .int .i64 x.2, .int .i64 y.1, .int .i64 y.2, .int .i64 z.1, .int .i64 z.2]), (w.heap.size + 1, [.int .i64 0, .int .i64 0])] (fun _ => True)) (wd.heap.size) (fun u u' h hb => h.kept (fun _ _ h _ => h) hb) (by kernel_rfl) (by kernel_rfl) (by kernel_rfl) (by kernel_rfl) (fun u L h _ => h) k0 (Nat.le_refl _) ?_ ?_ ?_
  · intro c hc t u ku lu hp
    simp only [List.mem_cons, List.not_mem_nil, or_false] at hc
    rcases hc with rfl | rfl | rfl
    · clear hp
      simp only [LatC.op, LatC.dst, LatC.val, LatB.op, LatB.dst, LatB.zs, LatB.ty, List.map, List.cons_append, List.nil_append, putA, Act.put, List.setIfInBounds_toArray, List.set_cons_zero, List.set_cons_succ]
      refine wpOp_step rfl (fun K' hK' => ?_)
      have hK := Lib.hid hK'
      clear hK'
      go_simp
      with_reducible refine (AX.out _).mono ?_
      rintro _ u1 ⟨rfl, hb1⟩
      go_wp2_with fail
      exact hK.out _ _ ⟨rfl, hb1⟩
    · clear hp
      simp only [LatC.op, LatC.dst, LatC.val, LatB.op, LatB.dst, LatB.zs, LatB.ty, List.map, List.cons_append, List.nil_append, putA, Act.put, List.setIfInBounds_toArray, List.set_cons_zero, List.set_cons_succ]
      refine wpOp_step rfl (fun K' hK' => ?_)
      have hK := Lib.hid hK'
      clear hK'
      go_simp
      with_reducible refine (AY.out _).mono ?_
      rintro _ u1 ⟨rfl, hb1⟩
      go_wp2_with fail
      exact hK.out _ _ ⟨rfl, hb1⟩
    · clear hp
      simp only [LatC.op, LatC.dst, LatC.val, LatB.op, LatB.dst, LatB.zs, LatB.ty, List.map, List.cons_append, List.nil_append, putA, Act.put, List.setIfInBounds_toArray, List.set_cons_zero, List.set_cons_succ]
      refine wpOp_step rfl (fun K' hK' => ?_)
      have hK := Lib.hid hK'
      clear hK'
      go_simp
      with_reducible refine (AZ.out _).mono ?_
      rintro _ u1 ⟨rfl, hb1⟩
      go_wp2_with fail
      exact hK.out _ _ ⟨rfl, hb1⟩
  · intro b hb t u ku
    simp only [List.mem_cons, List.not_mem_nil, or_false] at hb
    rcases hb with rfl | rfl | rfl
    all_goals (simp only [LatC.op, LatC.dst, LatC.val, LatB.op, LatB.dst, LatB.zs, LatB.ty, List.map, List.cons_append, List.nil_append, putA, Act.put, List.setIfInBounds_toArray, List.set_cons_zero, List.set_cons_succ]; refine wpOp_step rfl (fun K' hK' => ?_); have hK := Lib.hid hK'; clear hK'; go_simp; exact hK.out _ _ ⟨rfl, rfl⟩)
  intro t u g ku lu hcs hbs hne
  have t12 : t 12 = .agg #[.int .i64 p.1, .int .i64 p.2] := hcs (2, 12, .agg #[.int .i64 p.1, .int .i64 p.2]) (by simp)
  have t15 : t 15 = .agg #[.int .i64 q.1, .int .i64 q.2] := hcs (5, 15, .agg #[.int .i64 q.1, .int .i64 q.2]) (by simp)
  have t18 : t 18 = .agg #[.int .i64 r.1, .int .i64 r.2] := hcs (8, 18, .agg #[.int .i64 r.1, .int .i64 r.2]) (by simp)
  obtain ⟨t3, lg3, _, hr3⟩ := hbs (9, 3, [.int .i64 0, .int .i64 0], 31) (by simp)
  simp only [LatB.op, LatB.dst] at t3 lg3 hr3
  obtain ⟨t4, lg4, _, hr4⟩ := hbs (10, 4, [.int .i64 0, .int .i64 0], 31) (by simp)
  simp only [LatB.op, LatB.dst] at t4 lg4 hr4
  obtain ⟨t5, lg5, _, hr5⟩ := hbs (11, 5, [.int .i64 0, .int .i64 0], 31) (by simp)
  simp only [LatB.op, LatB.dst] at t5 lg5 hr5
  have ne3_4 : g 9 ≠ g 10 := hne (9, 3, [.int .i64 0, .int .i64 0], 31) (by simp) (10, 4, [.int .i64 0, .int .i64 0], 31) (by simp) (by decide)
  have ne3_5 : g 9 ≠ g 11 := hne (9, 3, [.int .i64 0, .int .i64 0], 31) (by simp) (11, 5, [.int .i64 0, .int .i64 0], 31) (by simp) (by decide)
  have ne4_5 : g 10 ≠ g 11 := hne (10, 4, [.int .i64 0, .int .i64 0], 31) (by simp) (11, 5, [.int .i64 0, .int .i64 0], 31) (by simp) (by decide)
  have b3_0 : Own u (g 9) 0 (.int .i64 0) := hr3 0 _ rfl
  have b3_1 : Own u (g 9) 1 (.int .i64 0) := hr3 1 _ rfl
  clear hr3
  have b4_0 : Own u (g 10) 0 (.int .i64 0) := hr4 0 _ rfl
  have b4_1 : Own u (g 10) 1 (.int .i64 0) := hr4 1 _ rfl
  clear hr4
  have b5_0 : Own u (g 11) 0 (.int .i64 0) := hr5 0 _ rfl
  have b5_1 : Own u (g 11) 1 (.int .i64 0) := hr5 1 _ rfl
  clear hr5
  clear hcs hbs hne
  generalize g 9 = g3 at *
  generalize g 10 = g4 at *
  generalize g 11 = g5 at *
  simp only [LatC.op, LatC.dst, LatC.val, LatB.op, LatB.dst, LatB.zs, LatB.ty, List.map, List.cons_append, List.nil_append, setL, if_true, putA, Act.put, List.setIfInBounds_toArray, List.set_cons_zero, List.set_cons_succ, t12, t15, t18, t3, t4, t5]
  clear t12 t15 t18 t3 t4 t5
  have sc0 := b3_0.1
  have sc1 := b3_1.1
  have sf0 := b3_0.2
  have sf1 := b3_1.2
  refine AnyS.one (i := 12) (by kernel_rfl) (AnyS.comes rfl (fun K hK => ?_))
  go_simp
  refine hK.out _ _ (fun h => absurd h (by decide)) ?_
  clear hK K
  try simp only [Act.put, List.getElem_toArray, List.getElem_cons_zero, List.getElem_cons_succ, List.setIfInBounds_toArray, List.set_cons_zero, List.set_cons_succ]
  clear sc0 sf0 sc1 sf1
  obtain ⟨vn0, hv⟩ : ∃ wq : World, wq = ((u.setCell ⟨g3, 0, none⟩ (.int .i64 p.1)).setCell ⟨g3, 1, none⟩ (.int .i64 p.2)) := ⟨_, rfl⟩
  rw [← hv]
  have n3_0 : Own vn0 g3 0 (.int .i64 p.1) := by rw [hv]; exact (own_next (by decide) (own_put b3_0))
  have n3_1 : Own vn0 g3 1 (.int .i64 p.2) := by rw [hv]; exact (own_put (own_next (by decide) b3_1))
  have n4_0 : Own vn0 g4 0 (.int .i64 0) := by rw [hv]; exact (own_far ne3_4 (own_far ne3_4 b4_0))
  have n4_1 : Own vn0 g4 1 (.int .i64 0) := by rw [hv]; exact (own_far ne3_4 (own_far ne3_4 b4_1))
  have n5_0 : Own vn0 g5 0 (.int .i64 0) := by rw [hv]; exact (own_far ne3_5 (own_far ne3_5 b5_0))
  have n5_1 : Own vn0 g5 1 (.int .i64 0) := by rw [hv]; exact (own_far ne3_5 (own_far ne3_5 b5_1))
  have bn : Below w.heap.size w vn0 := by rw [hv]; exact Below.setCell (Below.setCell (ku.2.2) (by dsimp only; omega) _) (by dsimp only; omega) _
  have m0_0 : Own vn0 w.heap.size 0 (.int .i64 x.1) := by rw [hv]; exact (own_far (by dsimp only; omega) (own_far (by dsimp only; omega) ((ku.row (b := w.heap.size) (vs := [.int .i64 x.1, .int .i64 x.2, .int .i64 y.1, .int .i64 y.2, .int .i64 z.1, .int .i64 z.2]) (by simp)).at 0 rfl)))
  have m0_1 : Own vn0 w.heap.size 1 (.int .i64 x.2) := by rw [hv]; exact (own_far (by dsimp only; omega) (own_far (by dsimp only; omega) ((ku.row (b := w.heap.size) (vs := [.int .i64 x.1, .int .i64 x.2, .int .i64 y.1, .int .i64 y.2, .int .i64 z.1, .int .i64 z.2]) (by simp)).at 1 rfl)))
  have m0_2 : Own vn0 w.heap.size 2 (.int .i64 y.1) := by rw [hv]; exact (own_far (by dsimp only; omega) (own_far (by dsimp only; omega) ((ku.row (b := w.heap.size) (vs := [.int .i64 x.1, .int .i64 x.2, .int .i64 y.1, .int .i64 y.2, .int .i64 z.1, .int .i64 z.2]) (by simp)).at 2 rfl)))
  have m0_3 : Own vn0 w.heap.size 3 (.int .i64 y.2) := by rw [hv]; exact (own_far (by dsimp only; omega) (own_far (by dsimp only; omega) ((ku.row (b := w.heap.size) (vs := [.int .i64 x.1, .int .i64 x.2, .int .i64 y.1, .int .i64 y.2, .int .i64 z.1, .int .i64 z.2]) (by simp)).at 3 rfl)))
  have m0_4 : Own vn0 w.heap.size 4 (.int .i64 z.1) := by rw [hv]; exact (own_far (by dsimp only; omega) (own_far (by dsimp only; omega) ((ku.row (b := w.heap.size) (vs := [.int .i64 x.1, .int .i64 x.2, .int .i64 y.1, .int .i64 y.2, .int .i64 z.1, .int .i64 z.2]) (by simp)).at 4 rfl)))
  have m0_5 : Own vn0 w.heap.size 5 (.int .i64 z.2) := by rw [hv]; exact (own_far (by dsimp only; omega) (own_far (by dsimp only; omega) ((ku.row (b := w.heap.size) (vs := [.int .i64 x.1, .int .i64 x.2, .int .i64 y.1, .int .i64 y.2, .int .i64 z.1, .int .i64 z.2]) (by simp)).at 5 rfl)))
  have m1_0 : Own vn0 (w.heap.size + 1) 0 (.int .i64 0) := by rw [hv]; exact (own_far (by dsimp only; omega) (own_far (by dsimp only; omega) ((ku.row (b := w.heap.size + 1) (vs := [.int .i64 0, .int .i64 0]) (by simp)).at 0 rfl)))
  have m1_1 : Own vn0 (w.heap.size + 1) 1 (.int .i64 0) := by rw [hv]; exact (own_far (by dsimp only; omega) (own_far (by dsimp only; omega) ((ku.row (b := w.heap.size + 1) (vs := [.int .i64 0, .int .i64 0]) (by simp)).at 1 rfl)))
  clear hv b3_0 b3_1 b4_0 b4_1 b5_0 b5_1 
  have b3_0 := n3_0
  have b3_1 := n3_1
  have b4_0 := n4_0
  have b4_1 := n4_1
  have b5_0 := n5_0
  have b5_1 := n5_1
  have bk := bn
  clear bn n3_0 n3_1 n4_0 n4_1 n5_0 n5_1
  have r0_0 := m0_0
  have r0_1 := m0_1
  have r0_2 := m0_2
  have r0_3 := m0_3
  have r0_4 := m0_4
  have r0_5 := m0_5
  have r1_0 := m1_0
  have r1_1 := m1_1
  clear m0_0 m0_1 m0_2 m0_3 m0_4 m0_5 m1_0 m1_1
  have sc0 := b4_0.1
  have sc1 := b4_1.1
  have sf0 := b4_0.2
  have sf1 := b4_1.2
  refine AnyS.one (i := 13) (by kernel_rfl) (AnyS.comes rfl (fun K hK => ?_))
  go_simp
  refine hK.out _ _ (fun h => absurd h (by decide)) ?_
  clear hK K
  try simp only [Act.put, List.getElem_toArray, List.getElem_cons_zero, List.getElem_cons_succ, List.setIfInBounds_toArray, List.set_cons_zero, List.set_cons_succ]
  clear sc0 sf0 sc1 sf1
  obtain ⟨vn1, hv⟩ : ∃ wq : World, wq = ((vn0.setCell ⟨g4, 0, none⟩ (.int .i64 q.1)).setCell ⟨g4, 1, none⟩ (.int .i64 q.2)) := ⟨_, rfl⟩
  rw [← hv]
  have n3_0 : Own vn1 g3 0 (.int .i64 p.1) := by rw [hv]; exact (own_far (Ne.symm ne3_4) (own_far (Ne.symm ne3_4) b3_0))
  have n3_1 : Own vn1 g3 1 (.int .i64 p.2) := by rw [hv]; exact (own_far (Ne.symm ne3_4) (own_far (Ne.symm ne3_4) b3_1))
  have n4_0 : Own vn1 g4 0 (.int .i64 q.1) := by rw [hv]; exact (own_next (by decide) (own_put b4_0))
  have n4_1 : Own vn1 g4 1 (.int .i64 q.2) := by rw [hv]; exact (own_put (own_next (by decide) b4_1))
  have n5_0 : Own vn1 g5 0 (.int .i64 0) := by rw [hv]; exact (own_far ne4_5 (own_far ne4_5 b5_0))
  have n5_1 : Own vn1 g5 1 (.int .i64 0) := by rw [hv]; exact (own_far ne4_5 (own_far ne4_5 b5_1))
  have bn : Below w.heap.size w vn1 := by rw [hv]; exact Below.setCell (Below.setCell (bk) (by dsimp only; omega) _) (by dsimp only; omega) _
  have m0_0 : Own vn1 w.heap.size 0 (.int .i64 x.1) := by rw [hv]; exact (own_far (by dsimp only; omega) (own_far (by dsimp only; omega) r0_0))
  have m0_1 : Own vn1 w.heap.size 1 (.int .i64 x.2) := by rw [hv]; exact (own_far (by dsimp only; omega) (own_far (by dsimp only; omega) r0_1))
  have m0_2 : Own vn1 w.heap.size 2 (.int .i64 y.1) := by rw [hv]; exact (own_far (by dsimp only; omega) (own_far (by dsimp only; omega) r0_2))
  have m0_3 : Own vn1 w.heap.size 3 (.int .i64 y.2) := by rw [hv]; exact (own_far (by dsimp only; omega) (own_far (by dsimp only; omega) r0_3))
  have m0_4 : Own vn1 w.heap.size 4 (.int .i64 z.1) := by rw [hv]; exact (own_far (by dsimp only; omega) (own_far (by dsimp only; omega) r0_4))
  have m0_5 : Own vn1 w.heap.size 5 (.int .i64 z.2) := by rw [hv]; exact (own_far (by dsimp only; omega) (own_far (by dsimp only; omega) r0_5))
  have m1_0 : Own vn1 (w.heap.size + 1) 0 (.int .i64 0) := by rw [hv]; exact (own_far (by dsimp only; omega) (own_far (by dsimp only; omega) r1_0))
  have m1_1 : Own vn1 (w.heap.size + 1) 1 (.int .i64 0) := by rw [hv]; exact (own_far (by dsimp only; omega) (own_far (by dsimp only; omega) r1_1))
  clear hv b3_0 b3_1 b4_0 b4_1 b5_0 b5_1 bk
  have b3_0 := n3_0
  have b3_1 := n3_1
  have b4_0 := n4_0
  have b4_1 := n4_1
  have b5_0 := n5_0
  have b5_1 := n5_1
  have bk := bn
  clear bn n3_0 n3_1 n4_0 n4_1 n5_0 n5_1
  clear r0_0 r0_1 r0_2 r0_3 r0_4 r0_5 r1_0 r1_1
  have r0_0 := m0_0
  have r0_1 := m0_1
  have r0_2 := m0_2
  have r0_3 := m0_3
  have r0_4 := m0_4
  have r0_5 := m0_5
  have r1_0 := m1_0
  have r1_1 := m1_1
  clear m0_0 m0_1 m0_2 m0_3 m0_4 m0_5 m1_0 m1_1
  have sc0 := b5_0.1
  have sc1 := b5_1.1
  have sf0 := b5_0.2
  have sf1 := b5_1.2
  refine AnyS.one (i := 14) (by kernel_rfl) (AnyS.comes rfl (fun K hK => ?_))
  go_simp
  refine hK.out _ _ (fun h => absurd h (by decide)) ?_
  clear hK K
  try simp only [Act.put, List.getElem_toArray, List.getElem_cons_zero, List.getElem_cons_succ, List.setIfInBounds_toArray, List.set_cons_zero, List.set_cons_succ]
  clear sc0 sf0 sc1 sf1
  obtain ⟨vn2, hv⟩ : ∃ wq : World, wq = ((vn1.setCell ⟨g5, 0, none⟩ (.int .i64 r.1)).setCell ⟨g5, 1, none⟩ (.int .i64 r.2)) := ⟨_, rfl⟩
  rw [← hv]
  have n3_0 : Own vn2 g3 0 (.int .i64 p.1) := by rw [hv]; exact (own_far (Ne.symm ne3_5) (own_far (Ne.symm ne3_5) b3_0))
  have n3_1 : Own vn2 g3 1 (.int .i64 p.2) := by rw [hv]; exact (own_far (Ne.symm ne3_5) (own_far (Ne.symm ne3_5) b3_1))
  have n4_0 : Own vn2 g4 0 (.int .i64 q.1) := by rw [hv]; exact (own_far (Ne.symm ne4_5) (own_far (Ne.symm ne4_5) b4_0))
  have n4_1 : Own vn2 g4 1 (.int .i64 q.2) := by rw [hv]; exact (own_far (Ne.symm ne4_5) (own_far (Ne.symm ne4_5) b4_1))
  have n5_0 : Own vn2 g5 0 (.int .i64 r.1) := by rw [hv]; exact (own_next (by decide) (own_put b5_0))
  have n5_1 : Own vn2 g5 1 (.int .i64 r.2) := by rw [hv]; exact (own_put (own_next (by decide) b5_1))
  have bn : Below w.heap.size w vn2 := by rw [hv]; exact Below.setCell (Below.setCell (bk) (by dsimp only; omega) _) (by dsimp only; omega) _
  have m0_0 : Own vn2 w.heap.size 0 (.int .i64 x.1) := by rw [hv]; exact (own_far (by dsimp only; omega) (own_far (by dsimp only; omega) r0_0))
  have m0_1 : Own vn2 w.heap.size 1 (.int .i64 x.2) := by rw [hv]; exact (own_far (by dsimp only; omega) (own_far (by dsimp only; omega) r0_1))
  have m0_2 : Own vn2 w.heap.size 2 (.int .i64 y.1) := by rw [hv]; exact (own_far (by dsimp only; omega) (own_far (by dsimp only; omega) r0_2))
  have m0_3 : Own vn2 w.heap.size 3 (.int .i64 y.2) := by rw [hv]; exact (own_far (by dsimp only; omega) (own_far (by dsimp only; omega) r0_3))
  have m0_4 : Own vn2 w.heap.size 4 (.int .i64 z.1) := by rw [hv]; exact (own_far (by dsimp only; omega) (own_far (by dsimp only; omega) r0_4))
  have m0_5 : Own vn2 w.heap.size 5 (.int .i64 z.2) := by rw [hv]; exact (own_far (by dsimp only; omega) (own_far (by dsimp only; omega) r0_5))
  have m1_0 : Own vn2 (w.heap.size + 1) 0 (.int .i64 0) := by rw [hv]; exact (own_far (by dsimp only; omega) (own_far (by dsimp only; omega) r1_0))
  have m1_1 : Own vn2 (w.heap.size + 1) 1 (.int .i64 0) := by rw [hv]; exact (own_far (by dsimp only; omega) (own_far (by dsimp only; omega) r1_1))
  clear hv b3_0 b3_1 b4_0 b4_1 b5_0 b5_1 bk
  have b3_0 := n3_0
  have b3_1 := n3_1
  have b4_0 := n4_0
  have b4_1 := n4_1
  have b5_0 := n5_0
  have b5_1 := n5_1
  have bk := bn
  clear bn n3_0 n3_1 n4_0 n4_1 n5_0 n5_1
  clear r0_0 r0_1 r0_2 r0_3 r0_4 r0_5 r1_0 r1_1
  have r0_0 := m0_0
  have r0_1 := m0_1
  have r0_2 := m0_2
  have r0_3 := m0_3
  have r0_4 := m0_4
  have r0_5 := m0_5
  have r1_0 := m1_0
  have r1_1 := m1_1
  clear m0_0 m0_1 m0_2 m0_3 m0_4 m0_5 m1_0 m1_1
  refine AnyS.done (by kernel_rfl) ?_ _
  have R3 : RowAt vn2 g3 0 [.int .i64 p.1, .int .i64 p.2] := row_cons b3_0 (row_cons b3_1 row_nil)
  have R4 : RowAt vn2 g4 0 [.int .i64 q.1, .int .i64 q.2] := row_cons b4_0 (row_cons b4_1 row_nil)
  have R5 : RowAt vn2 g5 0 [.int .i64 r.1, .int .i64 r.2] := row_cons b5_0 (row_cons b5_1 row_nil)
  have RZ : RowAt vn2 (w.heap.size + 1) 0 [.int .i64 0, .int .i64 0] := row_cons r1_0 (row_cons r1_1 row_nil)
  replace bk := bk
  clear b3_0 b3_1 b4_0 b4_1 b5_0 b5_1 r1_0 r1_1 r0_0 r0_1 r0_2 r0_3 r0_4 r0_5 ku lu lg3 lg4 lg5 lt0 lt1 lw k0
  have c0 := (R3.at 0 rfl).1
  have c1 := (R4.at 0 rfl).1
  have c2 := (R5.at 0 rfl).1
  go_wp2_with fail
  clear c0 c1 c2
  refine (L1.out _ _ (row_new (vs := [.int .i64 p.1, .int .i64 q.1, .int .i64 r.1]) rfl)).mono ?_
  rintro e u1 ⟨rfl, hb⟩
  replace R3 := R3.alloc.kept hb
  replace R4 := R4.alloc.kept hb
  replace R5 := R5.alloc.kept hb
  replace RZ := RZ.alloc.kept hb
  replace bk := (bk.alloc bk.size _).trans (hb.mono (bk.alloc bk.size _).size)
  clear hb
  go_wp2_with fail
  refine (F1.out _).mono ?_
  rintro e u2 ⟨rfl, hb⟩
  replace R3 := R3.kept hb
  replace R4 := R4.kept hb
  replace R5 := R5.kept hb
  replace RZ := RZ.kept hb
  replace bk := bk.trans (hb.mono bk.size)
  clear hb
  have c0 := (R3.at 1 rfl).1
  have c1 := (R4.at 1 rfl).1
  have c2 := (R5.at 1 rfl).1
  go_wp2_with fail
  clear c0 c1 c2
  refine (L2.out _ _ (row_new (vs := [.int .i64 p.2, .int .i64 q.2, .int .i64 r.2]) rfl)).mono ?_
  rintro e u1 ⟨rfl, hb⟩
  replace R3 := R3.alloc.kept hb
  replace R4 := R4.alloc.kept hb
  replace R5 := R5.alloc.kept hb
  replace RZ := RZ.alloc.kept hb
  replace bk := (bk.alloc bk.size _).trans (hb.mono (bk.alloc bk.size _).size)
  clear hb
  go_wp2_with fail
  refine (F2.out _).mono ?_
  rintro e u2 ⟨rfl, hb⟩
  replace R3 := R3.kept hb
  replace R4 := R4.kept hb
  replace R5 := R5.kept hb
  replace RZ := RZ.kept hb
  replace bk := bk.trans (hb.mono bk.size)
  clear hb
  cases bl
  · go_wp2_with fail
    refine (I.out _ _).mono ?_
    rintro e u3 ⟨rfl, hb⟩
    replace R3 := R3.kept hb
    replace R4 := R4.kept hb
    replace R5 := R5.kept hb
    replace RZ := RZ.kept hb
    replace bk := bk.trans (hb.mono bk.size)
    clear hb
    have d0 := (RZ.at 0 rfl).1
    have d1 := (RZ.at 1 rfl).1
    have f0 := (RZ.at 0 rfl).2
    have f1 := (RZ.at 1 rfl).2
    go_wp2
    exact bodyPost_ret (v := .agg #[.int .i64 (kn false (l, h)).1, .int .i64 (kn false (l, h)).2]) (by simp [results, Try.results68, go_sem, d0, d1]) rfl ⟨rfl, belS⟩
  · cases bh
    · go_wp2_with fail
      refine (I.out _ _).mono ?_
      rintro e u3 ⟨rfl, hb⟩
      replace R3 := R3.kept hb
      replace R4 := R4.kept hb
      replace R5 := R5.kept hb
      replace RZ := RZ.kept hb
      replace bk := bk.trans (hb.mono bk.size)
      clear hb
      have d0 := (RZ.at 0 rfl).1
      have d1 := (RZ.at 1 rfl).1
      have f0 := (RZ.at 0 rfl).2
      have f1 := (RZ.at 1 rfl).2
      go_wp2
      exact bodyPost_ret (v := .agg #[.int .i64 (kn false (l, h)).1, .int .i64 (kn false (l, h)).2]) (by simp [results, Try.results68, go_sem, d0, d1]) rfl ⟨rfl, belS⟩
    · go_wp2_with fail
      refine (I.out _ _).mono ?_
      rintro e u3 ⟨rfl, hb⟩
      replace R3 := R3.kept hb
      replace R4 := R4.kept hb
      replace R5 := R5.kept hb
      replace RZ := RZ.kept hb
      replace bk := bk.trans (hb.mono bk.size)
      clear hb
      have d0 := (RZ.at 0 rfl).1
      have d1 := (RZ.at 1 rfl).1
      have f0 := (RZ.at 0 rfl).2
      have f1 := (RZ.at 1 rfl).2
      go_wp2
      exact bodyPost_ret (v := .agg #[.int .i64 (kn true (l, h)).1, .int .i64 (kn true (l, h)).2]) (by simp [results, Try.results68, go_sem, d0, d1]) rfl ⟨rfl, belS⟩
end Go.Proofs.Ytmikjgbojknlnaa
