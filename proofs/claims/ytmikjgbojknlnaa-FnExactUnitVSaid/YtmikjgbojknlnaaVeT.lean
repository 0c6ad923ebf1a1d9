/- Contract of the length of three numbers in the program. Conditions: the numbers are fixes. -/
import Derived.Test.YtmikjgbojknlnaaFixB
import Derived.Test.YtmikjgbojknlnaaIvA
import Derived.Test.YtmikjgbojknlnaaWideZe
import Derived.Test.YtmikjgbojknlnaaLat
import Derived.Deep.DeepCutAuto
import Derived.LoopN
import Derived.Handy
import Derived.Outline
namespace Go.Proofs.Ytmikjgbojknlnaa
open Go.ChangeShapes Go.WideShapes Go.ChangeAt Go.RowKit
set_option linter.unusedVariables false
set_option maxRecDepth 100000
set_option linter.unusedSimpArgs false
set_option maxHeartbeats 1000000
theorem sq_in {a : Int} (h : InF a) : 0 ≤ a * a ∧ a * a ≤ 1329227995784915872903807060280344576 := by
  unfold InF at h
  have n : a * a = ((a.natAbs * a.natAbs : Nat) : Int) := Int.natAbs_mul_self.symm
  have b : a.natAbs ≤ 1152921504606846976 := by omega
  have := Nat.mul_le_mul b b
  rw [n]; omega
theorem sumW_in {u v : Int} (h : InW (u + v)) : sumW u v = u + v ∧ sumOk u v = true := ⟨if_pos h, decide_eq_true h⟩
set_option maxHeartbeats 16000000 in
theorem lengthOf3 (a b c : Int) (ha : InF a) (hb : InF b) (hc : InF c) (p : Nat) (w : World) (r : RowAt w p 0 [.int .i64 a, .int .i64 b, .int .i64 c]) : Calls Try.prog 132 #[.slice (some ⟨p, 0, none⟩) 3 3] w fun e w' =>
    e = .returned (.agg #[.int .i64 (hiW (a * a + b * b + c * c)), .int .u64 (loW (a * a + b * b + c * c))]) ∧ Below w.heap.size w w' := by
  obtain ⟨s0, t0⟩ := sq_in ha
  obtain ⟨s1, t1⟩ := sq_in hb
  obtain ⟨s2, t2⟩ := sq_in hc
  have M0 := Lib.hid (fun w => WideMul_any a a (inF_64 ha) (inF_64 ha) w)
  have A0 := Lib.hid (fun w => WideAdd_any 0 (a * a) (by unfold InW; omega) (by unfold InW; omega) w)
  rw [(sumW_in (u := 0) (v := a * a) (by unfold InW; omega)).1, (sumW_in (u := 0) (v := a * a) (by unfold InW; omega)).2] at A0
  have M1 := Lib.hid (fun w => WideMul_any b b (inF_64 hb) (inF_64 hb) w)
  have A1 := Lib.hid (fun w => WideAdd_any (a * a) (b * b) (by unfold InW; omega) (by unfold InW; omega) w)
  rw [(sumW_in (u := (a * a)) (v := b * b) (by unfold InW; omega)).1, (sumW_in (u := (a * a)) (v := b * b) (by unfold InW; omega)).2] at A1
  have M2 := Lib.hid (fun w => WideMul_any c c (inF_64 hc) (inF_64 hc) w)
  have A2 := Lib.hid (fun w => WideAdd_any (a * a + b * b) (c * c) (by unfold InW; omega) (by unfold InW; omega) w)
  rw [(sumW_in (u := (a * a + b * b)) (v := c * c) (by unfold InW; omega)).1, (sumW_in (u := (a * a + b * b)) (v := c * c) (by unfold InW; omega)).2] at A2
  rw [Int.zero_add] at A0
  clear ha hb hc s0 s1 s2 t0 t1 t2
  generalize a * a + b * b + c * c = v3 at *
  generalize a * a + b * b = v2 at *
  generalize b * b = q1 at *
  generalize c * c = q2 at *
  generalize a * a = v1 at *
  have q0 : v1 = v1 := rfl
  have z0 : hiW 0 = 0 := rfl
  have z1 : loW 0 = 0 := rfl
  go_enter Try.func132, Try.ntmps132
  have E0 : ∀ o1 o2 : Obj, ((w.alloc o1).alloc o2).cell? ⟨p, 0, none⟩ = some (.int .i64 a) := fun _ _ => cell_alloc (cell_alloc (r.at 0 rfl).1)
  have E1 : ∀ o1 o2 : Obj, ((w.alloc o1).alloc o2).cell? ⟨p, 1, none⟩ = some (.int .i64 b) := fun _ _ => cell_alloc (cell_alloc (r.at 1 rfl).1)
  have E2 : ∀ o1 o2 : Obj, ((w.alloc o1).alloc o2).cell? ⟨p, 2, none⟩ = some (.int .i64 c) := fun _ _ => cell_alloc (cell_alloc (r.at 2 rfl).1)
  have lp := r.lt
  go_wp2_with fail
  refine wp_loop_rounds 4 ?_
  obtain ⟨w0, hw0⟩ : ∃ q : World, q = ((w.alloc (.cells #[.int .i64 0, .int .u64 0] 118)).alloc (.cells #[.int .i64 0, .int .u64 0] 112)) := ⟨_, rfl⟩
  rw [← hw0]
  replace r : RowAt w0 p 0 [.int .i64 a, .int .i64 b, .int .i64 c] := by rw [hw0]; exact r.alloc.alloc
  have rr : RowAt w0 (w.heap.size) 0 [.int .i64 0, .int .u64 0] := by rw [hw0]; repeat (first | exact row_nil | refine row_cons ⟨by simp [go_sem], by simp [go_sem]⟩ ?_)
  have rs : RowAt w0 (w.heap.size + 1) 0 [.int .i64 (hiW 0), .int .u64 (loW 0)] := by rw [hw0, z0, z1]; repeat (first | exact row_nil | refine row_cons ⟨by simp [go_sem], by simp [go_sem]⟩ ?_)
  have bw : Below w.heap.size w w0 := by rw [hw0]; exact belS
  clear hw0 E0 E1 E2 z0 z1
  rw [rounds_succ]
  have e := (r.at 0 rfl).1
  go_upto_region 5 with fail
  clear e
  refine AnyS.enter (K := RowsK w [(p, [.int .i64 a, .int .i64 b, .int .i64 c]), (w.heap.size, [.int .i64 0, .int .u64 0]), (w.heap.size + 1, [.int .i64 (hiW 0), .int .u64 (loW 0)])] (fun _ => True)) (s := 8) (by kernel_rfl) ⟨?_, trivial, belS⟩ ?_
  · intro r hr
    simp only [List.mem_cons, List.not_mem_nil, or_false] at hr
    rcases hr with rfl | rfl | rfl
    all_goals (dsimp only; repeat (first | (with_reducible assumption) | (with_reducible exact RowAt.drew (by assumption)) | exact row_nil | refine row_cons (by first | (with_reducible assumption) | (with_reducible exact own_drew (by assumption)) | exact ⟨by simp [go_sem], by simp [go_sem]⟩) ?_))
  intro wd k0
  have lw : w.heap.size ≤ wd.heap.size := k0.2.2.size
  have lt0 : p < wd.heap.size := World.block_lt_of_cell? _ _ (((k0.row (b := p) (vs := [.int .i64 a, .int .i64 b, .int .i64 c]) (by simp)).at 0 rfl).1)
  have lt1 : w.heap.size < wd.heap.size := World.block_lt_of_cell? _ _ (((k0.row (b := w.heap.size) (vs := [.int .i64 0, .int .u64 0]) (by simp)).at 0 rfl).1)
  have lt2 : w.heap.size + 1 < wd.heap.size := World.block_lt_of_cell? _ _ (((k0.row (b := w.heap.size + 1) (vs := [.int .i64 (hiW 0), .int .u64 (loW 0)]) (by simp)).at 0 rfl).1)
  refine AnyS.take (i := 0) (v := .agg #[.int .i64 (hiW 0), .int .u64 (loW 0)]) (T := RowsK w [(p, [.int .i64 a, .int .i64 b, .int .i64 c]), (w.heap.size, [.int .i64 0, .int .u64 0]), (w.heap.size + 1, [.int .i64 (hiW 0), .int .u64 (loW 0)])] (fun _ => True)) [8] rfl (by kernel_rfl) (by kernel_rfl) (by kernel_rfl) (by kernel_rfl) (by kernel_rfl) (fun _ _ _ h => h) (fun L u q h => h (q 8 (by simp))) (fun L u h => OneS.less (by decide) h) (Or.inl ⟨by rfl, ?_⟩) (fun _ => k0) ?_
  · intro u hu
    have hr0 : RowAt u p 0 [.int .i64 a, .int .i64 b, .int .i64 c] := hu.row (by simp)
    have c0_0 := (hr0.at 0 rfl).1
    have c0_1 := (hr0.at 1 rfl).1
    have c0_2 := (hr0.at 2 rfl).1
    have hr1 : RowAt u w.heap.size 0 [.int .i64 0, .int .u64 0] := hu.row (by simp)
    have c1_0 := (hr1.at 0 rfl).1
    have c1_1 := (hr1.at 1 rfl).1
    have hr2 : RowAt u (w.heap.size + 1) 0 [.int .i64 (hiW 0), .int .u64 (loW 0)] := hu.row (by simp)
    have c2_0 := (hr2.at 0 rfl).1
    have c2_1 := (hr2.at 1 rfl).1
    clear hu
    go_simp
  try simp only [Act.put, List.getElem_toArray, List.getElem_cons_zero, List.getElem_cons_succ, List.setIfInBounds_toArray, List.set_cons_zero, List.set_cons_succ]
  refine AnyS.take (i := 1) (v := .int .i64 a) (T := fun _ => True) [] rfl (by kernel_rfl) (by kernel_rfl) (by kernel_rfl) (by kernel_rfl) (by kernel_rfl) (fun _ _ _ h => h) (fun L u q h => trivial) (fun L u h => OneS.less (by decide) h) (Or.inl ⟨by rfl, ?_⟩) (fun _ => k0) ?_
  · intro u hu
    clear hu
    go_simp
  try simp only [Act.put, List.getElem_toArray, List.getElem_cons_zero, List.getElem_cons_succ, List.setIfInBounds_toArray, List.set_cons_zero, List.set_cons_succ]
  refine AnyS.take (i := 2) (v := .int .i64 a) (T := fun _ => True) [] rfl (by kernel_rfl) (by kernel_rfl) (by kernel_rfl) (by kernel_rfl) (by kernel_rfl) (fun _ _ _ h => h) (fun L u q h => trivial) (fun L u h => OneS.less (by decide) h) (Or.inl ⟨by rfl, ?_⟩) (fun _ => k0) ?_
  · intro u hu
    clear hu
    go_simp
  try simp only [Act.put, List.getElem_toArray, List.getElem_cons_zero, List.getElem_cons_succ, List.setIfInBounds_toArray, List.set_cons_zero, List.set_cons_succ]
  refine AnyS.std (n := 4) [(3, 16, .agg #[.int .i64 (hiW v1), .int .u64 (loW v1)]), (4, 17, .tuple #[.agg #[.int .i64 (hiW v1), .int .u64 (loW v1)], .bool true])] [] (RowsK w [(p, [.int .i64 a, .int .i64 b, .int .i64 c]), (w.heap.size, [.int .i64 0, .int .u64 0]), (w.heap.size + 1, [.int .i64 (hiW 0), .int .u64 (loW 0)])] (fun _ => True)) (wd.heap.size) (fun u u' h hb => h.kept (fun _ _ h _ => h) hb) (by kernel_rfl) (by kernel_rfl) (by kernel_rfl) (by kernel_rfl) (fun u L h _ => h) k0 (Nat.le_refl _) ?_ ?_ ?_
  · intro c hc t u ku lu hp
    simp only [List.mem_cons, List.not_mem_nil, or_false] at hc
    rcases hc with rfl | rfl
    · clear hp
      simp only [LatC.op, LatC.dst, LatC.val, LatB.op, LatB.dst, LatB.zs, LatB.ty, List.map, List.cons_append, List.nil_append, putA, Act.put, List.setIfInBounds_toArray, List.set_cons_zero, List.set_cons_succ]
      refine wpOp_step rfl (fun K' hK' => ?_)
      have hK := Lib.hid hK'
      clear hK'
      go_simp
      with_reducible refine (M0.out _).mono ?_
      rintro _ u1 ⟨rfl, hb1⟩
      go_wp2_with fail
      exact hK.out _ _ ⟨rfl, hb1⟩
    · have q16 : t 16 = .agg #[.int .i64 (hiW v1), .int .u64 (loW v1)] := hp (3, 16, .agg #[.int .i64 (hiW v1), .int .u64 (loW v1)]) (by simp) (by kernel_rfl)
      clear hp
      simp only [LatC.op, LatC.dst, LatC.val, LatB.op, LatB.dst, LatB.zs, LatB.ty, List.map, List.cons_append, List.nil_append, putA, Act.put, List.setIfInBounds_toArray, List.set_cons_zero, List.set_cons_succ]
      simp only [q16]
      refine wpOp_step rfl (fun K' hK' => ?_)
      have hK := Lib.hid hK'
      clear hK'
      go_simp
      with_reducible refine (A0.out _).mono ?_
      rintro _ u1 ⟨rfl, hb1⟩
      go_wp2_with fail
      exact hK.out _ _ ⟨rfl, hb1⟩
  · intro b hb; cases hb
  intro t u g ku lu hcs hbs hne
  have t16 : t 16 = .agg #[.int .i64 (hiW v1), .int .u64 (loW v1)] := hcs (3, 16, .agg #[.int .i64 (hiW v1), .int .u64 (loW v1)]) (by simp)
  have t17 : t 17 = .tuple #[.agg #[.int .i64 (hiW v1), .int .u64 (loW v1)], .bool true] := hcs (4, 17, .tuple #[.agg #[.int .i64 (hiW v1), .int .u64 (loW v1)], .bool true]) (by simp)
  clear hcs hbs hne
  simp only [LatC.op, LatC.dst, LatC.val, LatB.op, LatB.dst, LatB.zs, LatB.ty, List.map, List.cons_append, List.nil_append, setL, if_true, putA, Act.put, List.setIfInBounds_toArray, List.set_cons_zero, List.set_cons_succ, t16, t17]
  clear t16 t17
  refine AnyS.take (i := 5) (v := .tuple #[.agg #[.int .i64 (hiW v1), .int .u64 (loW v1)], .bool true]) (T := fun _ => True) [] rfl (by kernel_rfl) (by kernel_rfl) (by kernel_rfl) (by kernel_rfl) (by kernel_rfl) (fun _ _ _ h => h) (fun L u q h => trivial) (fun L u h => OneS.less (by decide) h) (Or.inl ⟨by rfl, ?_⟩) (fun _ => ku) ?_
  · intro u hu
    clear hu
    go_simp
  try simp only [Act.put, List.getElem_toArray, List.getElem_cons_zero, List.getElem_cons_succ, List.setIfInBounds_toArray, List.set_cons_zero, List.set_cons_succ]
  refine AnyS.take (i := 6) (v := .agg #[.int .i64 (hiW v1), .int .u64 (loW v1)]) (T := fun _ => True) [] rfl (by kernel_rfl) (by kernel_rfl) (by kernel_rfl) (by kernel_rfl) (by kernel_rfl) (fun _ _ _ h => h) (fun L u q h => trivial) (fun L u h => OneS.less (by decide) h) (Or.inl ⟨by rfl, ?_⟩) (fun _ => ku) ?_
  · intro u hu
    clear hu
    go_simp
  try simp only [Act.put, List.getElem_toArray, List.getElem_cons_zero, List.getElem_cons_succ, List.setIfInBounds_toArray, List.set_cons_zero, List.set_cons_succ]
  refine AnyS.take (i := 7) (v := .bool true) (T := fun _ => True) [] rfl (by kernel_rfl) (by kernel_rfl) (by kernel_rfl) (by kernel_rfl) (by kernel_rfl) (fun _ _ _ h => h) (fun L u q h => trivial) (fun L u h => OneS.less (by decide) h) (Or.inl ⟨by rfl, ?_⟩) (fun _ => ku) ?_
  · intro u hu
    clear hu
    go_simp
  try simp only [Act.put, List.getElem_toArray, List.getElem_cons_zero, List.getElem_cons_succ, List.setIfInBounds_toArray, List.set_cons_zero, List.set_cons_succ]
  have r : RowAt u p 0 [.int .i64 a, .int .i64 b, .int .i64 c] := ku.row (by simp)
  have rr : RowAt u (w.heap.size) 0 [.int .i64 0, .int .u64 0] := ku.row (by simp)
  have rs : RowAt u (w.heap.size + 1) 0 [.int .i64 (hiW 0), .int .u64 (loW 0)] := ku.row (by simp)
  have bw := ku.2.2
  have sc0 := (rs.at 0 rfl).1
  have sc1 := (rs.at 1 rfl).1
  have sf0 := (rs.at 0 rfl).2
  have sf1 := (rs.at 1 rfl).2
  refine AnyS.one (i := 8) (by kernel_rfl) (AnyS.comes rfl (fun K hK => ?_))
  go_simp
  refine hK.out _ _ (fun h => absurd h (by decide)) ?_
  clear hK K
  try simp only [Act.put, List.getElem_toArray, List.getElem_cons_zero, List.getElem_cons_succ, List.setIfInBounds_toArray, List.set_cons_zero, List.set_cons_succ]
  refine AnyS.done (by kernel_rfl) ?_ _
  clear sc0 sc1 sf0 sf1 ku lu k0 lw lt0 lt1 lt2
  go_wp2_with fail
  obtain ⟨y0, hv⟩ : ∃ q : World, q = (u.setCell ⟨w.heap.size + 1, 0, none⟩ (.int .i64 (hiW v1))).setCell ⟨w.heap.size + 1, 1, none⟩ (.int .u64 (loW v1)) := ⟨_, rfl⟩
  rw [← hv]
  replace rs : RowAt y0 (w.heap.size + 1) 0 [.int .i64 (hiW v1), .int .u64 (loW v1)] := by rw [hv]; exact row_cons (own_next (by decide) (own_put (rs.at 0 rfl))) (row_cons (own_put (own_next (by decide) (rs.at 1 rfl))) row_nil)
  replace r := RowAt.set2 hv (by dsimp only; omega) (by dsimp only; omega) r
  replace rr := RowAt.set2 hv (by dsimp only; omega) (by dsimp only; omega) rr
  replace bw : Below w.heap.size w y0 := by rw [hv]; exact (bw.setCell (by dsimp only; omega) _).setCell (by dsimp only; omega) _
  clear hv
  rw [rounds_succ]
  have e := (r.at 1 rfl).1
  go_upto_region 5 with fail
  clear e
  refine AnyS.enter (K := RowsK w [(p, [.int .i64 a, .int .i64 b, .int .i64 c]), (w.heap.size, [.int .i64 0, .int .u64 0]), (w.heap.size + 1, [.int .i64 (hiW v1), .int .u64 (loW v1)])] (fun _ => True)) (s := 8) (by kernel_rfl) ⟨?_, trivial, belS⟩ ?_
  · intro r hr
    simp only [List.mem_cons, List.not_mem_nil, or_false] at hr
    rcases hr with rfl | rfl | rfl
    all_goals (dsimp only; repeat (first | (with_reducible assumption) | (with_reducible exact RowAt.drew (by assumption)) | exact row_nil | refine row_cons (by first | (with_reducible assumption) | (with_reducible exact own_drew (by assumption)) | exact ⟨by simp [go_sem], by simp [go_sem]⟩) ?_))
  intro wd k0
  have lw : w.heap.size ≤ wd.heap.size := k0.2.2.size
  have lt0 : p < wd.heap.size := World.block_lt_of_cell? _ _ (((k0.row (b := p) (vs := [.int .i64 a, .int .i64 b, .int .i64 c]) (by simp)).at 0 rfl).1)
  have lt1 : w.heap.size < wd.heap.size := World.block_lt_of_cell? _ _ (((k0.row (b := w.heap.size) (vs := [.int .i64 0, .int .u64 0]) (by simp)).at 0 rfl).1)
  have lt2 : w.heap.size + 1 < wd.heap.size := World.block_lt_of_cell? _ _ (((k0.row (b := w.heap.size + 1) (vs := [.int .i64 (hiW v1), .int .u64 (loW v1)]) (by simp)).at 0 rfl).1)
  refine AnyS.take (i := 0) (v := .agg #[.int .i64 (hiW v1), .int .u64 (loW v1)]) (T := RowsK w [(p, [.int .i64 a, .int .i64 b, .int .i64 c]), (w.heap.size, [.int .i64 0, .int .u64 0]), (w.heap.size + 1, [.int .i64 (hiW v1), .int .u64 (loW v1)])] (fun _ => True)) [8] rfl (by kernel_rfl) (by kernel_rfl) (by kernel_rfl) (by kernel_rfl) (by kernel_rfl) (fun _ _ _ h => h) (fun L u q h => h (q 8 (by simp))) (fun L u h => OneS.less (by decide) h) (Or.inl ⟨by rfl, ?_⟩) (fun _ => k0) ?_
  · intro u hu
    have hr0 : RowAt u p 0 [.int .i64 a, .int .i64 b, .int .i64 c] := hu.row (by simp)
    have c0_0 := (hr0.at 0 rfl).1
    have c0_1 := (hr0.at 1 rfl).1
    have c0_2 := (hr0.at 2 rfl).1
    have hr1 : RowAt u w.heap.size 0 [.int .i64 0, .int .u64 0] := hu.row (by simp)
    have c1_0 := (hr1.at 0 rfl).1
    have c1_1 := (hr1.at 1 rfl).1
    have hr2 : RowAt u (w.heap.size + 1) 0 [.int .i64 (hiW v1), .int .u64 (loW v1)] := hu.row (by simp)
    have c2_0 := (hr2.at 0 rfl).1
    have c2_1 := (hr2.at 1 rfl).1
    clear hu
    go_simp
  try simp only [Act.put, List.getElem_toArray, List.getElem_cons_zero, List.getElem_cons_succ, List.setIfInBounds_toArray, List.set_cons_zero, List.set_cons_succ]
  refine AnyS.take (i := 1) (v := .int .i64 b) (T := fun _ => True) [] rfl (by kernel_rfl) (by kernel_rfl) (by kernel_rfl) (by kernel_rfl) (by kernel_rfl) (fun _ _ _ h => h) (fun L u q h => trivial) (fun L u h => OneS.less (by decide) h) (Or.inl ⟨by rfl, ?_⟩) (fun _ => k0) ?_
  · intro u hu
    clear hu
    go_simp
  try simp only [Act.put, List.getElem_toArray, List.getElem_cons_zero, List.getElem_cons_succ, List.setIfInBounds_toArray, List.set_cons_zero, List.set_cons_succ]
  refine AnyS.take (i := 2) (v := .int .i64 b) (T := fun _ => True) [] rfl (by kernel_rfl) (by kernel_rfl) (by kernel_rfl) (by kernel_rfl) (by kernel_rfl) (fun _ _ _ h => h) (fun L u q h => trivial) (fun L u h => OneS.less (by decide) h) (Or.inl ⟨by rfl, ?_⟩) (fun _ => k0) ?_
  · intro u hu
    clear hu
    go_simp
  try simp only [Act.put, List.getElem_toArray, List.getElem_cons_zero, List.getElem_cons_succ, List.setIfInBounds_toArray, List.set_cons_zero, List.set_cons_succ]
  refine AnyS.std (n := 4) [(3, 16, .agg #[.int .i64 (hiW q1), .int .u64 (loW q1)]), (4, 17, .tuple #[.agg #[.int .i64 (hiW v2), .int .u64 (loW v2)], .bool true])] [] (RowsK w [(p, [.int .i64 a, .int .i64 b, .int .i64 c]), (w.heap.size, [.int .i64 0, .int .u64 0]), (w.heap.size + 1, [.int .i64 (hiW v1), .int .u64 (loW v1)])] (fun _ => True)) (wd.heap.size) (fun u u' h hb => h.kept (fun _ _ h _ => h) hb) (by kernel_rfl) (by kernel_rfl) (by kernel_rfl) (by kernel_rfl) (fun u L h _ => h) k0 (Nat.le_refl _) ?_ ?_ ?_
  · intro c hc t u ku lu hp
    simp only [List.mem_cons, List.not_mem_nil, or_false] at hc
    rcases hc with rfl | rfl
    · clear hp
      simp only [LatC.op, LatC.dst, LatC.val, LatB.op, LatB.dst, LatB.zs, LatB.ty, List.map, List.cons_append, List.nil_append, putA, Act.put, List.setIfInBounds_toArray, List.set_cons_zero, List.set_cons_succ]
      refine wpOp_step rfl (fun K' hK' => ?_)
      have hK := Lib.hid hK'
      clear hK'
      go_simp
      with_reducible refine (M1.out _).mono ?_
      rintro _ u1 ⟨rfl, hb1⟩
      go_wp2_with fail
      exact hK.out _ _ ⟨rfl, hb1⟩
    · have q16 : t 16 = .agg #[.int .i64 (hiW q1), .int .u64 (loW q1)] := hp (3, 16, .agg #[.int .i64 (hiW q1), .int .u64 (loW q1)]) (by simp) (by kernel_rfl)
      clear hp
      simp only [LatC.op, LatC.dst, LatC.val, LatB.op, LatB.dst, LatB.zs, LatB.ty, List.map, List.cons_append, List.nil_append, putA, Act.put, List.setIfInBounds_toArray, List.set_cons_zero, List.set_cons_succ]
      simp only [q16]
      refine wpOp_step rfl (fun K' hK' => ?_)
      have hK := Lib.hid hK'
      clear hK'
      go_simp
      with_reducible refine (A1.out _).mono ?_
      rintro _ u1 ⟨rfl, hb1⟩
      go_wp2_with fail
      exact hK.out _ _ ⟨rfl, hb1⟩
  · intro b hb; cases hb
  intro t u g ku lu hcs hbs hne
  have t16 : t 16 = .agg #[.int .i64 (hiW q1), .int .u64 (loW q1)] := hcs (3, 16, .agg #[.int .i64 (hiW q1), .int .u64 (loW q1)]) (by simp)
  have t17 : t 17 = .tuple #[.agg #[.int .i64 (hiW v2), .int .u64 (loW v2)], .bool true] := hcs (4, 17, .tuple #[.agg #[.int .i64 (hiW v2), .int .u64 (loW v2)], .bool true]) (by simp)
  clear hcs hbs hne
  simp only [LatC.op, LatC.dst, LatC.val, LatB.op, LatB.dst, LatB.zs, LatB.ty, List.map, List.cons_append, List.nil_append, setL, if_true, putA, Act.put, List.setIfInBounds_toArray, List.set_cons_zero, List.set_cons_succ, t16, t17]
  clear t16 t17
  refine AnyS.take (i := 5) (v := .tuple #[.agg #[.int .i64 (hiW v2), .int .u64 (loW v2)], .bool true]) (T := fun _ => True) [] rfl (by kernel_rfl) (by kernel_rfl) (by kernel_rfl) (by kernel_rfl) (by kernel_rfl) (fun _ _ _ h => h) (fun L u q h => trivial) (fun L u h => OneS.less (by decide) h) (Or.inl ⟨by rfl, ?_⟩) (fun _ => ku) ?_
  · intro u hu
    clear hu
    go_simp
  try simp only [Act.put, List.getElem_toArray, List.getElem_cons_zero, List.getElem_cons_succ, List.setIfInBounds_toArray, List.set_cons_zero, List.set_cons_succ]
  refine AnyS.take (i := 6) (v := .agg #[.int .i64 (hiW v2), .int .u64 (loW v2)]) (T := fun _ => True) [] rfl (by kernel_rfl) (by kernel_rfl) (by kernel_rfl) (by kernel_rfl) (by kernel_rfl) (fun _ _ _ h => h) (fun L u q h => trivial) (fun L u h => OneS.less (by decide) h) (Or.inl ⟨by rfl, ?_⟩) (fun _ => ku) ?_
  · intro u hu
    clear hu
    go_simp
  try simp only [Act.put, List.getElem_toArray, List.getElem_cons_zero, List.getElem_cons_succ, List.setIfInBounds_toArray, List.set_cons_zero, List.set_cons_succ]
  refine AnyS.take (i := 7) (v := .bool true) (T := fun _ => True) [] rfl (by kernel_rfl) (by kernel_rfl) (by kernel_rfl) (by kernel_rfl) (by kernel_rfl) (fun _ _ _ h => h) (fun L u q h => trivial) (fun L u h => OneS.less (by decide) h) (Or.inl ⟨by rfl, ?_⟩) (fun _ => ku) ?_
  · intro u hu
    clear hu
    go_simp
  try simp only [Act.put, List.getElem_toArray, List.getElem_cons_zero, List.getElem_cons_succ, List.setIfInBounds_toArray, List.set_cons_zero, List.set_cons_succ]
  have r : RowAt u p 0 [.int .i64 a, .int .i64 b, .int .i64 c] := ku.row (by simp)
  have rr : RowAt u (w.heap.size) 0 [.int .i64 0, .int .u64 0] := ku.row (by simp)
  have rs : RowAt u (w.heap.size + 1) 0 [.int .i64 (hiW v1), .int .u64 (loW v1)] := ku.row (by simp)
  have bw := ku.2.2
  have sc0 := (rs.at 0 rfl).1
  have sc1 := (rs.at 1 rfl).1
  have sf0 := (rs.at 0 rfl).2
  have sf1 := (rs.at 1 rfl).2
  refine AnyS.one (i := 8) (by kernel_rfl) (AnyS.comes rfl (fun K hK => ?_))
  go_simp
  refine hK.out _ _ (fun h => absurd h (by decide)) ?_
  clear hK K
  try simp only [Act.put, List.getElem_toArray, List.getElem_cons_zero, List.getElem_cons_succ, List.setIfInBounds_toArray, List.set_cons_zero, List.set_cons_succ]
  refine AnyS.done (by kernel_rfl) ?_ _
  clear sc0 sc1 sf0 sf1 ku lu k0 lw lt0 lt1 lt2
  go_wp2_with fail
  obtain ⟨y1, hv⟩ : ∃ q : World, q = (u.setCell ⟨w.heap.size + 1, 0, none⟩ (.int .i64 (hiW v2))).setCell ⟨w.heap.size + 1, 1, none⟩ (.int .u64 (loW v2)) := ⟨_, rfl⟩
  rw [← hv]
  replace rs : RowAt y1 (w.heap.size + 1) 0 [.int .i64 (hiW v2), .int .u64 (loW v2)] := by rw [hv]; exact row_cons (own_next (by decide) (own_put (rs.at 0 rfl))) (row_cons (own_put (own_next (by decide) (rs.at 1 rfl))) row_nil)
  replace r := RowAt.set2 hv (by dsimp only; omega) (by dsimp only; omega) r
  replace rr := RowAt.set2 hv (by dsimp only; omega) (by dsimp only; omega) rr
  replace bw : Below w.heap.size w y1 := by rw [hv]; exact (bw.setCell (by dsimp only; omega) _).setCell (by dsimp only; omega) _
  clear hv
  rw [rounds_succ]
  have e := (r.at 2 rfl).1
  go_upto_region 5 with fail
  clear e
  refine AnyS.enter (K := RowsK w [(p, [.int .i64 a, .int .i64 b, .int .i64 c]), (w.heap.size, [.int .i64 0, .int .u64 0]), (w.heap.size + 1, [.int .i64 (hiW v2), .int .u64 (loW v2)])] (fun _ => True)) (s := 8) (by kernel_rfl) ⟨?_, trivial, belS⟩ ?_
  · intro r hr
    simp only [List.mem_cons, List.not_mem_nil, or_false] at hr
    rcases hr with rfl | rfl | rfl
    all_goals (dsimp only; repeat (first | (with_reducible assumption) | (with_reducible exact RowAt.drew (by assumption)) | exact row_nil | refine row_cons (by first | (with_reducible assumption) | (with_reducible exact own_drew (by assumption)) | exact ⟨by simp [go_sem], by simp [go_sem]⟩) ?_))
  intro wd k0
  have lw : w.heap.size ≤ wd.heap.size := k0.2.2.size
  have lt0 : p < wd.heap.size := World.block_lt_of_cell? _ _ (((k0.row (b := p) (vs := [.int .i64 a, .int .i64 b, .int .i64 c]) (by simp)).at 0 rfl).1)
  have lt1 : w.heap.size < wd.heap.size := World.block_lt_of_cell? _ _ (((k0.row (b := w.heap.size) (vs := [.int .i64 0, .int .u64 0]) (by simp)).at 0 rfl).1)
  have lt2 : w.heap.size + 1 < wd.heap.size := World.block_lt_of_cell? _ _ (((k0.row (b := w.heap.size + 1) (vs := [.int .i64 (hiW v2), .int .u64 (loW v2)]) (by simp)).at 0 rfl).1)
  refine AnyS.take (i := 0) (v := .agg #[.int .i64 (hiW v2), .int .u64 (loW v2)]) (T := RowsK w [(p, [.int .i64 a, .int .i64 b, .int .i64 c]), (w.heap.size, [.int .i64 0, .int .u64 0]), (w.heap.size + 1, [.int .i64 (hiW v2), .int .u64 (loW v2)])] (fun _ => True)) [8] rfl (by kernel_rfl) (by kernel_rfl) (by kernel_rfl) (by kernel_rfl) (by kernel_rfl) (fun _ _ _ h => h) (fun L u q h => h (q 8 (by simp))) (fun L u h => OneS.less (by decide) h) (Or.inl ⟨by rfl, ?_⟩) (fun _ => k0) ?_
  · intro u hu
    have hr0 : RowAt u p 0 [.int .i64 a, .int .i64 b, .int .i64 c] := hu.row (by simp)
    have c0_0 := (hr0.at 0 rfl).1
    have c0_1 := (hr0.at 1 rfl).1
    have c0_2 := (hr0.at 2 rfl).1
    have hr1 : RowAt u w.heap.size 0 [.int .i64 0, .int .u64 0] := hu.row (by simp)
    have c1_0 := (hr1.at 0 rfl).1
    have c1_1 := (hr1.at 1 rfl).1
    have hr2 : RowAt u (w.heap.size + 1) 0 [.int .i64 (hiW v2), .int .u64 (loW v2)] := hu.row (by simp)
    have c2_0 := (hr2.at 0 rfl).1
    have c2_1 := (hr2.at 1 rfl).1
    clear hu
    go_simp
  try simp only [Act.put, List.getElem_toArray, List.getElem_cons_zero, List.getElem_cons_succ, List.setIfInBounds_toArray, List.set_cons_zero, List.set_cons_succ]
  refine AnyS.take (i := 1) (v := .int .i64 c) (T := fun _ => True) [] rfl (by kernel_rfl) (by kernel_rfl) (by kernel_rfl) (by kernel_rfl) (by kernel_rfl) (fun _ _ _ h => h) (fun L u q h => trivial) (fun L u h => OneS.less (by decide) h) (Or.inl ⟨by rfl, ?_⟩) (fun _ => k0) ?_
  · intro u hu
    clear hu
    go_simp
  try simp only [Act.put, List.getElem_toArray, List.getElem_cons_zero, List.getElem_cons_succ, List.setIfInBounds_toArray, List.set_cons_zero, List.set_cons_succ]
  refine AnyS.take (i := 2) (v := .int .i64 c) (T := fun _ => True) [] rfl (by kernel_rfl) (by kernel_rfl) (by kernel_rfl) (by kernel_rfl) (by kernel_rfl) (fun _ _ _ h => h) (fun L u q h => trivial) (fun L u h => OneS.less (by decide) h) (Or.inl ⟨by rfl, ?_⟩) (fun _ => k0) ?_
  · intro u hu
    clear hu
    go_simp
  try simp only [Act.put, List.getElem_toArray, List.getElem_cons_zero, List.getElem_cons_succ, List.setIfInBounds_toArray, List.set_cons_zero, List.set_cons_succ]
  refine AnyS.std (n := 4) [(3, 16, .agg #[.int .i64 (hiW q2), .int .u64 (loW q2)]), (4, 17, .tuple #[.agg #[.int .i64 (hiW v3), .int .u64 (loW v3)], .bool true])] [] (RowsK w [(p, [.int .i64 a, .int .i64 b, .int .i64 c]), (w.heap.size, [.int .i64 0, .int .u64 0]), (w.heap.size + 1, [.int .i64 (hiW v2), .int .u64 (loW v2)])] (fun _ => True)) (wd.heap.size) (fun u u' h hb => h.kept (fun _ _ h _ => h) hb) (by kernel_rfl) (by kernel_rfl) (by kernel_rfl) (by kernel_rfl) (fun u L h _ => h) k0 (Nat.le_refl _) ?_ ?_ ?_
  · intro c hc t u ku lu hp
    simp only [List.mem_cons, List.not_mem_nil, or_false] at hc
    rcases hc with rfl | rfl
    · clear hp
      simp only [LatC.op, LatC.dst, LatC.val, LatB.op, LatB.dst, LatB.zs, LatB.ty, List.map, List.cons_append, List.nil_append, putA, Act.put, List.setIfInBounds_toArray, List.set_cons_zero, List.set_cons_succ]
      refine wpOp_step rfl (fun K' hK' => ?_)
      have hK := Lib.hid hK'
      clear hK'
      go_simp
      with_reducible refine (M2.out _).mono ?_
      rintro _ u1 ⟨rfl, hb1⟩
      go_wp2_with fail
      exact hK.out _ _ ⟨rfl, hb1⟩
    · have q16 : t 16 = .agg #[.int .i64 (hiW q2), .int .u64 (loW q2)] := hp (3, 16, .agg #[.int .i64 (hiW q2), .int .u64 (loW q2)]) (by simp) (by kernel_rfl)
      clear hp
      simp only [LatC.op, LatC.dst, LatC.val, LatB.op, LatB.dst, LatB.zs, LatB.ty, List.map, List.cons_append, List.nil_append, putA, Act.put, List.setIfInBounds_toArray, List.set_cons_zero, List.set_cons_succ]
      simp only [q16]
      refine wpOp_step rfl (fun K' hK' => ?_)
      have hK := Lib.hid hK'
      clear hK'
      go_simp
      with_reducible refine (A2.out _).mono ?_
      rintro _ u1 ⟨rfl, hb1⟩
      go_wp2_with fail
      exact hK.out _ _ ⟨rfl, hb1⟩
  · intro b hb; cases hb
  intro t u g ku lu hcs hbs hne
  have t16 : t 16 = .agg #[.int .i64 (hiW q2), .int .u64 (loW q2)] := hcs (3, 16, .agg #[.int .i64 (hiW q2), .int .u64 (loW q2)]) (by simp)
  have t17 : t 17 = .tuple #[.agg #[.int .i64 (hiW v3), .int .u64 (loW v3)], .bool true] := hcs (4, 17, .tuple #[.agg #[.int .i64 (hiW v3), .int .u64 (loW v3)], .bool true]) (by simp)
  clear hcs hbs hne
  simp only [LatC.op, LatC.dst, LatC.val, LatB.op, LatB.dst, LatB.zs, LatB.ty, List.map, List.cons_append, List.nil_append, setL, if_true, putA, Act.put, List.setIfInBounds_toArray, List.set_cons_zero, List.set_cons_succ, t16, t17]
  clear t16 t17
  refine AnyS.take (i := 5) (v := .tuple #[.agg #[.int .i64 (hiW v3), .int .u64 (loW v3)], .bool true]) (T := fun _ => True) [] rfl (by kernel_rfl) (by kernel_rfl) (by kernel_rfl) (by kernel_rfl) (by kernel_rfl) (fun _ _ _ h => h) (fun L u q h => trivial) (fun L u h => OneS.less (by decide) h) (Or.inl ⟨by rfl, ?_⟩) (fun _ => ku) ?_
  · intro u hu
    clear hu
    go_simp
  try simp only [Act.put, List.getElem_toArray, List.getElem_cons_zero, List.getElem_cons_succ, List.setIfInBounds_toArray, List.set_cons_zero, List.set_cons_succ]
  refine AnyS.take (i := 6) (v := .agg #[.int .i64 (hiW v3), .int .u64 (loW v3)]) (T := fun _ => True) [] rfl (by kernel_rfl) (by kernel_rfl) (by kernel_rfl) (by kernel_rfl) (by kernel_rfl) (fun _ _ _ h => h) (fun L u q h => trivial) (fun L u h => OneS.less (by decide) h) (Or.inl ⟨by rfl, ?_⟩) (fun _ => ku) ?_
  · intro u hu
    clear hu
    go_simp
  try simp only [Act.put, List.getElem_toArray, List.getElem_cons_zero, List.getElem_cons_succ, List.setIfInBounds_toArray, List.set_cons_zero, List.set_cons_succ]
  refine AnyS.take (i := 7) (v := .bool true) (T := fun _ => True) [] rfl (by kernel_rfl) (by kernel_rfl) (by kernel_rfl) (by kernel_rfl) (by kernel_rfl) (fun _ _ _ h => h) (fun L u q h => trivial) (fun L u h => OneS.less (by decide) h) (Or.inl ⟨by rfl, ?_⟩) (fun _ => ku) ?_
  · intro u hu
    clear hu
    go_simp
  try simp only [Act.put, List.getElem_toArray, List.getElem_cons_zero, List.getElem_cons_succ, List.setIfInBounds_toArray, List.set_cons_zero, List.set_cons_succ]
  have r : RowAt u p 0 [.int .i64 a, .int .i64 b, .int .i64 c] := ku.row (by simp)
  have rr : RowAt u (w.heap.size) 0 [.int .i64 0, .int .u64 0] := ku.row (by simp)
  have rs : RowAt u (w.heap.size + 1) 0 [.int .i64 (hiW v2), .int .u64 (loW v2)] := ku.row (by simp)
  have bw := ku.2.2
  have sc0 := (rs.at 0 rfl).1
  have sc1 := (rs.at 1 rfl).1
  have sf0 := (rs.at 0 rfl).2
  have sf1 := (rs.at 1 rfl).2
  refine AnyS.one (i := 8) (by kernel_rfl) (AnyS.comes rfl (fun K hK => ?_))
  go_simp
  refine hK.out _ _ (fun h => absurd h (by decide)) ?_
  clear hK K
  try simp only [Act.put, List.getElem_toArray, List.getElem_cons_zero, List.getElem_cons_succ, List.setIfInBounds_toArray, List.set_cons_zero, List.set_cons_succ]
  refine AnyS.done (by kernel_rfl) ?_ _
  clear sc0 sc1 sf0 sf1 ku lu k0 lw lt0 lt1 lt2
  go_wp2_with fail
  obtain ⟨y2, hv⟩ : ∃ q : World, q = (u.setCell ⟨w.heap.size + 1, 0, none⟩ (.int .i64 (hiW v3))).setCell ⟨w.heap.size + 1, 1, none⟩ (.int .u64 (loW v3)) := ⟨_, rfl⟩
  rw [← hv]
  replace rs : RowAt y2 (w.heap.size + 1) 0 [.int .i64 (hiW v3), .int .u64 (loW v3)] := by rw [hv]; exact row_cons (own_next (by decide) (own_put (rs.at 0 rfl))) (row_cons (own_put (own_next (by decide) (rs.at 1 rfl))) row_nil)
  replace r := RowAt.set2 hv (by dsimp only; omega) (by dsimp only; omega) r
  replace rr := RowAt.set2 hv (by dsimp only; omega) (by dsimp only; omega) rr
  replace bw : Below w.heap.size w y2 := by rw [hv]; exact (bw.setCell (by dsimp only; omega) _).setCell (by dsimp only; omega) _
  clear hv
  rw [rounds_succ]
  have c0 := (rs.at 0 rfl).1
  have c1 := (rs.at 1 rfl).1
  have d0 := (rr.at 0 rfl).1
  have d1 := (rr.at 1 rfl).1
  have f0 := (rr.at 0 rfl).2
  have f1 := (rr.at 1 rfl).2
  go_wp2
  exact bodyPost_ret (v := .agg #[.int .i64 (hiW v3), .int .u64 (loW v3)]) (by simp [results, Try.results132, go_sem, d0, d1]) rfl ⟨rfl, belS⟩
end Go.Proofs.Ytmikjgbojknlnaa
