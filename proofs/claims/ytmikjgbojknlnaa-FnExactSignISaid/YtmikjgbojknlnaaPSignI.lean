/- The statement of FnExactSignI: at every argument the call returns true, and what was there stays as it was. No conditions. -/
import Derived.Test.YtmikjgbojknlnaaVeS
import Derived.Test.YtmikjgbojknlnaaHead
namespace Go.Proofs.Ytmikjgbojknlnaa.fnExactSignI
open Go.ChangeShapes Go.WideShapes Go.ChangeAt Go.RowKit Go.Joins
open Go.WideMaps Go.WideElems

theorem cellsV : Try.prog.cellsOf 30 = 2 := by kernel_rfl
set_option maxRecDepth 100000 in
theorem lifted (os : Os) (started : os.Started) (H : Type) (enc : TypeId × Value → H) :
    ReturnsInHanded {} Try.checked os 8 .any (Rows.fnExactSignISpec.pre6 enc Try.prog Try.f8 Rows.fnExactSignIRow.domain false) (Rows.fnExactSignISpec.post enc Try.prog Try.f8 false true false false) := by
  refine returnsInHanded_of_change (C := Try.checked) own started (by kernel_rfl) Try.func8
    (ChangeSpec.witness6 (enc := enc) (C := Try.checked) false ⟨#[], #[.agg #[.int .i64 0, .int .i64 0]], []⟩ 8 (by kernel_rfl) (by kernel_rfl) (by kernel_rfl) (by kernel_rfl)) ?_
  intro W base args ds gs before hval0 hW hcnd _
  clear hcnd
  have hval : ∀ (j : Nat) t v, Try.f8.params[j]? = some t → args[j]? = some v → Value.okWide Try.prog W .any base t v := hval0
  have hW' := hW
  obtain ⟨p, q, hA0, hV, rfl, hfz, hnd⟩ := hW
  clear hfz hnd
  have hA : DataW.TrodAll enc Try.prog W 0 (fun _ => true) true Try.f8.params.toList args.toList ds p := hA0
  rw [Try.params8] at hA hval
  obtain ⟨v0, vs0, d0, ds0, p0, q0, hargs, rfl, rfl, h0, r0⟩ := trodAll_cons hA
  obtain ⟨rfl, rfl, rfl⟩ := trodAll_nil r0
  obtain rfl : args = #[v0] := by cases args; simp_all
  obtain ⟨rfl, rfl⟩ := trodVars_none hV
  obtain ⟨c0a, c0b, y0a, y0b, m0, rfl, rfl, rfl, hy0a, hy0b⟩ := open_agg2 Try.underlying30 (by kernel_rfl) cellsV (hval 0 30 v0 rfl rfl) h0
  obtain ⟨lo0, e0a, rfl, wh0⟩ := DataW.trod_int Try.underlying2 hy0a
  obtain ⟨hi0, e0b, rfl, wl0⟩ := DataW.trod_int Try.underlying2 hy0b
  simp at e0a e0b
  subst e0a e0b
  have bl0 : In64 lo0 := bounds_i64 wh0
  have bh0 : In64 hi0 := bounds_i64 wl0
  have reads0 : ∀ (W' : World) (sp : Nat → Bool), DataW.Trod enc Try.prog W' 0 sp true 30 (.agg #[.int .i64 lo0, .int .i64 hi0]) (.agg [.lit (.int .i64 lo0), .lit (.int .i64 hi0)]) [] := fun W' sp =>
    shut_agg2 (y0 := (.lit (.int .i64 lo0), [])) (y1 := (.lit (.int .i64 hi0), [])) Try.underlying30 (by kernel_rfl) cellsV ⟨1, by simp [DataW.trod, Try.underlying2, wh0]⟩ ⟨1, by simp [DataW.trod, Try.underlying2, wl0]⟩
  clear hA0 hval0
  simp only [List.append_nil] at hW'
  refine (law_SignI (lo0, hi0) W).mono fun e W' ⟨he, hg⟩ => ?_
  subst he
  exact ⟨_, rfl, closes (pa := []) (pv := []) hg hW' rfl (fun _ _ _ => (trodAll_cons_mk (shut_bool Try.underlying4 _) trodAll_mk0)) (fun sp _ => (trodAll_cons_mk (reads0 _ sp) trodAll_mk0)) (fun _ _ => rfl)
    (ok_one (by kernel_rfl) rfl (okWide_bool_mk Try.underlying4 _))⟩

set_option maxHeartbeats 4000000 in
theorem closed : joinedFacts Try.pinned.checked.prog 8 Try.f8 Rows.fnExactSignISpec Rows.fnExactSignIRow = true := by
  unfold joinedFacts
  repeat' (with_reducible refine and_t ?_ ?_)
  all_goals first | (with_reducible exact head_enters) | (rw [head_lifts]; rfl) | (rw [head_makes]; rfl) | as_aux_lemma => kernel_rfl
theorem over : Rows.fnExactSignIRow.holds Try.pinned (OpenSpec.ofChange Rows.fnExactSignISpec) :=
  OpenClaim.holds_of_wide 8 Try.f8 rfl rfl rfl rfl rfl rfl rfl ⟨rfl, rfl, rfl, rfl, rfl⟩ rfl rfl rfl rfl rfl (by kernel_rfl) Try.func8 closed
    (of_decide_eq_true (by kernel_rfl)) (by unfold Func.isWrapper; first | (rw [if_pos (by decide +kernel)]; kernel_rfl) | (rw [if_neg (by decide +kernel)]; exact ⟨rfl, rfl⟩))
    (fun os started H enc _ => lifted os started H enc)

/-- The statement. -/
theorem proved : Rows.FnExactSignISaid := over

#print axioms proved
end Go.Proofs.Ytmikjgbojknlnaa.fnExactSignI
