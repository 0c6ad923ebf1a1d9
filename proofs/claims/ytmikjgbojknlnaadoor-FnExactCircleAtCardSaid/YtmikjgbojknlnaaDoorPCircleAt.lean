/- The card of FnExactCircleAt: at every input the program answers as the model does; the two intervals that it keeps are the ones that the program's text lays. No other conditions. -/
import Derived.Test.YtmikjgbojknlnaaDoorCards
import Derived.Test.YtmikjgbojknlnaaDoorTie
import Derived.Test.YtmikjgbojknlnaaDoorAtN
import Derived.Test.YtmikjgbojknlnaaDoorHead
import Derived.WalkSmall
import Derived.Deep.DeepHandedRow
import Derived.Lib.LaidTab
namespace Go.Proofs.YtmikjgbojknlnaaDoor.fnExactCircleAt
open Go.ChangeShapes Go.WideShapes Go.ChangeAt Go.RowKit Go.Joins
open Go.WideMaps Go.WideElems
set_option linter.unusedVariables false
set_option maxRecDepth 100000

theorem cellsI : Tryd.prog.cellsOf 2 = 1 := by kernel_rfl
theorem cellsT : Tryd.prog.cellsOf 23 = 2 := by kernel_rfl
theorem gTab0 : Tryd.prog.globalNamed "loop.example/g00880/impl.unitRing" = some 0 := by kernel_rfl
theorem gType0 : (Tryd.prog.globals[0]?).map (·.type) = some 23 := by kernel_rfl
/-- Two cells that read as two numbers hold them. -/
theorem pair_read {H : Type} {enc : TypeId × Value → H} {w : World} {base : Nat} {sp : Nat → Bool} {held : Bool} {fuel : Nat} {cs : List Value} {p : List MemPlace} {a b : Int}
    (h : DataW.trod enc Tryd.prog w base sp held fuel 23 cs = some (.agg [.lit (.int .i64 a), .lit (.int .i64 b)], p)) : cs = [.int .i64 a, .int .i64 b] := by
  obtain ⟨y0, y1, n, hx, hl, h0, h1⟩ := trod_struct2 Tryd.underlying23 h
  rw [cellsT] at hl
  match cs, hl with
  | [c0, c1], _ =>
    obtain ⟨m0, e0, x0, _⟩ := DataW.trod_int Tryd.underlying2 h0
    obtain ⟨m1, e1, x1, _⟩ := DataW.trod_int Tryd.underlying2 h1
    simp [cellsI] at e0 e1
    subst e0 e1
    rw [x0, x1] at hx
    simp at hx
    obtain ⟨⟨rfl, rfl⟩, _⟩ := hx
    rfl
def vals0 : Array Value := #[.int .i64 (-4294967296), .int .i64 4294967296]
def laid0 {H : Type} : DataW H := .agg [.lit (.int .i64 (-4294967296)), .lit (.int .i64 4294967296)]
theorem trod0 {H : Type} (enc : TypeId × Value → H) (w : World) (sp : Nat → Bool) : DataW.trod enc Tryd.prog w 0 sp true 8 23 vals0.toList = some (laid0, []) := by kernel_rfl
theorem tables {W : World} (h : laidMetH Tryd.prog Rows.fnExactCircleAtRow.laid W) : W.var? Tryd.prog "loop.example/g00880/impl.unitRing" = some vals0 := by
  obtain ⟨ps, ⟨g0, t0, cs0, f0, p0, q0, hg0, ht0, hvar0, hd0, _, _⟩, _⟩ := h
  obtain rfl := Option.some.inj (gTab0.symm.trans hg0)
  obtain rfl := Option.some.inj (gType0.symm.trans ht0)
  have e0 := pair_read hd0
  · rw [hvar0]; exact congrArg some (Array.toList_inj.1 e0)

theorem contract (H : Type) (enc : TypeId × Value → H) (W : World) (base : Nat) (args : Array Value) (ds gs : List (DataW H)) (before : List MemPlace)
    (hval : ∀ (j : Nat) t v, Tryd.f3.params[j]? = some t → args[j]? = some v → Value.okWide Tryd.prog W .any base t v)
    (hW : DataW.Whole enc Tryd.prog Tryd.f3.params.toList Rows.fnExactCircleAtSpec.vars false W args.toList ds gs before) (hL : laidMetH Tryd.prog Rows.fnExactCircleAtRow.laid W) :
    Calls Tryd.prog 3 args W fun e W' => ∃ v, e = .returned v ∧ Rows.fnExactCircleAtSpec.post enc Tryd.prog Tryd.f3 false true false false W args v W' := by
  have hW' := hW
  obtain ⟨p, q, hA0, hV0, rfl, hfz, hnd⟩ := hW
  clear hfz hnd
  have hA : DataW.TrodAll enc Tryd.prog W 0 (fun _ => true) true Tryd.f3.params.toList args.toList ds p := hA0
  have hV : DataW.TrodVars enc Tryd.prog W (fun _ => true) ["loop.example/g00880/impl.unitRing"] gs q := hV0
  rw [Tryd.params3] at hA hval
  obtain ⟨v0, vs0, d0, ds0, p0, q0, hargs, rfl, rfl, h0, r0⟩ := trodAll_cons hA
  obtain ⟨rfl, rfl, rfl⟩ := trodAll_nil r0
  obtain rfl : args = #[v0] := by cases args; simp_all
  obtain ⟨g0, t0, cs0, f0, dg0, pg0, rfl, hg0, ht0, hvar0, hd0, hq⟩ := trodVars_one hV
  obtain rfl := Option.some.inj (gTab0.symm.trans hg0)
  obtain rfl := Option.some.inj (gType0.symm.trans ht0)
  obtain tab0 := tables hL
  obtain rfl := Option.some.inj (tab0.symm.trans hvar0)
  have same0 := DataW.trod_le (Nat.le_max_left f0 8) hd0
  rw [DataW.trod_le (Nat.le_max_right f0 8) (trod0 enc W _)] at same0
  obtain ⟨rfl, rfl⟩ := Prod.mk.inj (Option.some.inj same0)
  obtain ⟨a0, rfl, rfl, rfl, w0⟩ := open_int Tryd.underlying2 (hval 0 2 v0 rfl rfl) h0
  have b0 : In64 a0 := bounds_i64 w0
  clear hA0 hV0 same0 hd0
  have hG : GloR W := ⟨(World.var?_cell gTab0 tab0 0).trans rfl, (World.var?_cell gTab0 tab0 1).trans rfl⟩
  have gl0 : 0 < W.heap.size := World.block_lt_of_cell? W ⟨0, 0, none⟩ hG.1
  refine (law_CircleAt a0 b0 W hG).mono fun e W' ⟨he, hg⟩ => ?_
  subst he
  exact ⟨_, rfl, closes (pa := []) (pv := q) hg hW' (by simp) (fun _ _ _ => trodAll_cons_mk (shut_bool Tryd.underlying4 _) trodAll_mk0) (fun sp _ => (trodAll_cons_mk (shut_int Tryd.underlying2 w0) trodAll_mk0))
    (fun sp _ => by
      rw [hq]
      exact trodVars_mk1 gTab0 gType0 (var?_below hg gTab0 gl0 tab0) (trod0 enc W' sp)) (ok_one (by kernel_rfl) rfl (okWide_bool_mk Tryd.underlying4 _))⟩

/-- A block with other cells. -/
def recell (vals : Array Value) : Obj → Obj
  | .cells _ t frozen => .cells vals t frozen
  | o => o
/-- A world in which the two intervals are laid. -/
noncomputable def laidWorld (os : Os) : World :=
  { World.holding Tryd.prog os ⟨#[], #[], []⟩ with heap := ((World.holding Tryd.prog os ⟨#[], #[], []⟩).heap).modify 0 (recell vals0) }
theorem laid_met (os : Os) : laidMet Tryd.prog Rows.fnExactCircleAtRow.laid ((laidWorld os).forCall (fun _ _ => 0) ⟨#[], #[(.int .i64 0 : Value)], []⟩).memory :=
  laidMet_of_run' 8 (by kernel_rfl) (by kernel_rfl)
theorem reads (os : Os) {H : Type} (enc : TypeId × Value → H) : ∃ places, DataW.whole enc Tryd.prog ((laidWorld os).forCall (fun _ _ => 0) ⟨#[], #[(.int .i64 0 : Value)], []⟩).memory Tryd.f3.params.toList Rows.fnExactCircleAtSpec.vars false #[(.int .i64 0 : Value)].toList 8 = some ([.lit (.int .i64 0)], [laid0], places) :=
  ⟨MemPlace.row ⟨0, 0, none⟩ 2, by kernel_rfl⟩

set_option maxRecDepth 100000 in
theorem lifted (os : Os) (started : os.Started) (H : Type) (enc : TypeId × Value → H) (F : Stop.Interp) :
    ReturnsInHanded {} Tryd.checked os 3 .any ((OpenSpec.ofChange Rows.fnExactCircleAtSpec).preRow enc Tryd.prog Tryd.f3 Rows.fnExactCircleAtRow.domain false Rows.fnExactCircleAtRow.laid) (((OpenSpec.ofChange Rows.fnExactCircleAtSpec).at F).post enc Tryd.prog Tryd.f3 false true false false) := by
  obtain ⟨places, hx⟩ := reads os enc
  refine returnsInHanded_of_row (C := Tryd.checked) (s := OpenSpec.ofChange Rows.fnExactCircleAtSpec) own started (by kernel_rfl) Tryd.func3
    (witness_row_at (enc := enc) (C := Tryd.checked) false (laidWorld os) #[(.int .i64 0 : Value)] rfl (by kernel_rfl) (by kernel_rfl) (by kernel_rfl)
      (OpenSpec.preRow_of_cond 8 hx (by kernel_rfl) (fun k hk => by cases hk) (by kernel_rfl) (laid_met os))) ?_
  intro W base args ds gs before hval hW _ _ _ hL _ _
  exact contract H enc W base args ds gs before hval hW hL

theorem said : Rows.FnExactCircleAtSaid :=
  OpenClaim.holds_of_cond 3 Tryd.f3 rfl rfl rfl rfl rfl rfl rfl ⟨rfl, rfl, rfl, rfl, rfl⟩ rfl rfl rfl rfl rfl (by kernel_rfl) Tryd.func3 (by kernel_rfl)
    (of_decide_eq_true (by kernel_rfl)) (by unfold Func.isWrapper; first | (rw [if_pos (by decide +kernel)]; kernel_rfl) | (rw [if_neg (by decide +kernel)]; exact ⟨rfl, rfl⟩))
    (fun os started H enc _ F => by rw [OpenClaim.pre_eq_preRow]; exact lifted os started H enc F)

/-- No parameter wants a stand-in; the program's own looks are as the card says. -/
theorem plain (f : FuncId) (fn : Func) (hf : Tryd.pinned.checked.prog.funcNamed "loop.example/g00880/laws.FnExactCircleAt" = some f) (hfn : Tryd.pinned.checked.prog.funcs[f]? = some fn) :
    false = Tryd.pinned.checked.prog.looks [] ∧ ∀ (j : Nat) t, fn.params[j]? = some t → Tryd.pinned.checked.prog.wantsStandIn t = false := by
  obtain rfl : f = 3 := Option.some.inj ((show Tryd.prog.funcNamed "loop.example/g00880/laws.FnExactCircleAt" = some 3 by kernel_rfl).symm.trans hf) |>.symm
  obtain rfl : fn = Tryd.f3 := (Option.some.inj (Tryd.func3.symm.trans hfn)).symm
  refine ⟨by kernel_rfl, fun j t ht => ?_⟩
  rw [Tryd.params3] at ht
  obtain rfl : t = 2 := by simpa using Array.mem_of_getElem? ht
  exact (show Tryd.prog.wantsStandIn 2 = false by kernel_rfl)

/-- The card. -/
theorem card : Rows.FnExactCircleAtCardSaid :=
  Claim7.holds_tied_plain_at .later [] _ _ _ _ said (fun _ h => by cases h) (by kernel_rfl) (fun _ h => by cases h) fnExactCircleAt_row_tie rfl ⟨rfl, rfl⟩ (by kernel_rfl) rfl plain (by kernel_rfl)
#print axioms card
end Go.Proofs.YtmikjgbojknlnaaDoor.fnExactCircleAt
