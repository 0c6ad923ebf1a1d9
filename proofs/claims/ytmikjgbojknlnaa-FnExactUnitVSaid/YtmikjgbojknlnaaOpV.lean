/- Arguments that are vectors and matrices of intervals, opened and read again. No conditions. -/
import Derived.Test.YtmikjgbojknlnaaNumP
import Derived.Deep.Strs
import Derived.Lib.SmallJoins
namespace Go.Proofs.Ytmikjgbojknlnaa
open Go.ChangeShapes Go.WideShapes Go.ChangeAt Go.RowKit Go.Joins Go.Deep
set_option linter.unusedVariables false
set_option maxRecDepth 100000
set_option linter.unusedSimpArgs false
set_option maxHeartbeats 1000000
section
variable {H : Type} {enc : TypeId × Value → H} {w : World} {base : Nat} {sp : Nat → Bool} {held : Bool}
theorem cellsLI : Try.prog.cellsOf 2 = 1 := by kernel_rfl
theorem cellsLV : Try.prog.cellsOf 30 = 2 := by kernel_rfl
theorem cellsLW : Try.prog.cellsOf 49 = 6 := by kernel_rfl
/-- Both ends are well formed. -/
def Wf (v : Iv) : Prop := (Lit.int .i64 v.1).wf = true ∧ (Lit.int .i64 v.2).wf = true
theorem Wf.ok {v : Iv} (h : Wf v) : Ok v := ⟨bounds_i64 h.1, bounds_i64 h.2⟩
def dI (v : Iv) : DataW H := .agg [.lit (.int .i64 v.1), .lit (.int .i64 v.2)]
theorem cells_iv {fuel : Nat} {cs : List Value} {x : DataW H × List MemPlace} (h : DataW.trod enc Try.prog w base sp held fuel 30 cs = some x) :
    ∃ v : Iv, Wf v ∧ cs = [.int .i64 v.1, .int .i64 v.2] ∧ x = (dI v, []) := by
  obtain ⟨y0, y1, n, hx, hl, h0, h1⟩ := trod_struct2 Try.underlying30 h
  rw [cellsLV] at hl
  match cs, hl with
  | [c0, c1], _ =>
    obtain ⟨m0, e0, x0, w0⟩ := DataW.trod_int Try.underlying2 h0
    obtain ⟨m1, e1, x1, w1⟩ := DataW.trod_int Try.underlying2 h1
    simp [cellsLI] at e0 e1
    subst e0 e1
    rw [x0, x1] at hx
    exact ⟨(m0, m1), ⟨w0, w1⟩, rfl, by simpa [dI] using hx⟩
theorem trod_iv (v : Iv) (hv : Wf v) : DataW.trod enc Try.prog w base sp held 2 30 [.int .i64 v.1, .int .i64 v.2] = some (dI v, []) := by
  have := trod_struct2_mk (enc := enc) (w := w) (base := base) (spare := sp) (held := held) (n := 1) (cs := [.int .i64 v.1, .int .i64 v.2]) (y0 := (.lit (.int .i64 v.1), [])) (y1 := (.lit (.int .i64 v.2), [])) Try.underlying30 (by simp [cellsLV])
    (by simpa [cellsLI] using trod_int_mk 0 Try.underlying2 hv.1) (by simpa [cellsLI] using trod_int_mk 0 Try.underlying2 hv.2)
  simpa [dI] using this
def dV (a0 a1 a2 : Iv) : DataW H := .agg [dI a0, dI a1, dI a2]
theorem cells_ve {fuel : Nat} {cs : List Value} {x : DataW H × List MemPlace} (h : DataW.trod enc Try.prog w base sp held fuel 49 cs = some x) :
    ∃ a0 a1 a2 : Iv, Wf a0 ∧ Wf a1 ∧ Wf a2 ∧ cs = [.int .i64 a0.1, .int .i64 a0.2, .int .i64 a1.1, .int .i64 a1.2, .int .i64 a2.1, .int .i64 a2.2] ∧ x = (dV a0 a1 a2, []) := by
  obtain ⟨y0, y1, y2, n, hx, hl, h0, h1, h2⟩ := trod_struct3 Try.underlying49 h
  rw [cellsLW] at hl
  match cs, hl with
  | [c0, c1, c2, c3, c4, c5], _ =>
    simp only [cellsLV, List.drop, List.take] at h0 h1 h2
    obtain ⟨a0, w0, e0, x0⟩ := cells_iv h0
    obtain ⟨a1, w1, e1, x1⟩ := cells_iv h1
    obtain ⟨a2, w2, e2, x2⟩ := cells_iv h2
    simp at e0 e1 e2
    obtain ⟨rfl, rfl⟩ := e0
    obtain ⟨rfl, rfl⟩ := e1
    obtain ⟨rfl, rfl⟩ := e2
    rw [x0, x1, x2] at hx
    exact ⟨a0, a1, a2, w0, w1, w2, rfl, by simpa [dV] using hx⟩
theorem trod_ve (a0 a1 a2 : Iv) (h0 : Wf a0) (h1 : Wf a1) (h2 : Wf a2) : DataW.trod enc Try.prog w base sp held 3 49 [.int .i64 a0.1, .int .i64 a0.2, .int .i64 a1.1, .int .i64 a1.2, .int .i64 a2.1, .int .i64 a2.2] = some (dV a0 a1 a2, []) := by
  have := trod_struct3_mk (enc := enc) (w := w) (base := base) (spare := sp) (held := held) (n := 2) (cs := [.int .i64 a0.1, .int .i64 a0.2, .int .i64 a1.1, .int .i64 a1.2, .int .i64 a2.1, .int .i64 a2.2]) (y0 := (dI a0, [])) (y1 := (dI a1, [])) (y2 := (dI a2, [])) Try.underlying49 (by simp [cellsLW])
    (by simpa [cellsLV] using trod_iv a0 h0) (by simpa [cellsLV] using trod_iv a1 h1) (by simpa [cellsLV] using trod_iv a2 h2)
  simpa [dV] using this
theorem open_vec {r : Reach} {b0 : Nat} {v : Value} {d : DataW H} {p : List MemPlace} (hv : Value.okWide Try.prog w r b0 49 v) (h : DataW.Trod enc Try.prog w base sp held 49 v d p) :
    ∃ a0 a1 a2 : Iv, v = .agg #[.int .i64 a0.1, .int .i64 a0.2, .int .i64 a1.1, .int .i64 a1.2, .int .i64 a2.1, .int .i64 a2.2] ∧ p = [] ∧ Ok a0 ∧ Ok a1 ∧ Ok a2 ∧ ∀ (W' : World) (sp' : Nat → Bool), DataW.Trod enc Try.prog W' 0 sp' true 49 v d [] := by
  obtain ⟨cs, rfl, hsz⟩ := okWide_struct Try.underlying49 hv
  obtain ⟨fuel, hf⟩ := h
  obtain ⟨a0, a1, a2, w0, w1, w2, e, x⟩ := cells_ve hf
  obtain ⟨l⟩ := cs
  simp only [Value.cells] at e
  subst e
  obtain ⟨rfl, rfl⟩ := Prod.mk.inj x
  exact ⟨a0, a1, a2, rfl, rfl, w0.ok, w1.ok, w2.ok, fun W' sp' => ⟨3, trod_ve a0 a1 a2 w0 w1 w2⟩⟩
end
section
variable {H : Type} {enc : TypeId × Value → H} {w : World} {base : Nat} {sp : Nat → Bool} {held : Bool}
theorem cellsLM : Try.prog.cellsOf 63 = 18 := by kernel_rfl
theorem trod_ma (a0 a1 a2 b0 b1 b2 c0 c1 c2 : Iv) (h0 : Wf a0) (h1 : Wf a1) (h2 : Wf a2) (h3 : Wf b0) (h4 : Wf b1) (h5 : Wf b2) (h6 : Wf c0) (h7 : Wf c1) (h8 : Wf c2) : DataW.trod enc Try.prog w base sp held 4 63 [.int .i64 a0.1, .int .i64 a0.2, .int .i64 a1.1, .int .i64 a1.2, .int .i64 a2.1, .int .i64 a2.2, .int .i64 b0.1, .int .i64 b0.2, .int .i64 b1.1, .int .i64 b1.2, .int .i64 b2.1, .int .i64 b2.2, .int .i64 c0.1, .int .i64 c0.2, .int .i64 c1.1, .int .i64 c1.2, .int .i64 c2.1, .int .i64 c2.2] = some (.agg [dV a0 a1 a2, dV b0 b1 b2, dV c0 c1 c2], []) := by
  have := trod_struct3_mk (enc := enc) (w := w) (base := base) (spare := sp) (held := held) (n := 3) (cs := [.int .i64 a0.1, .int .i64 a0.2, .int .i64 a1.1, .int .i64 a1.2, .int .i64 a2.1, .int .i64 a2.2, .int .i64 b0.1, .int .i64 b0.2, .int .i64 b1.1, .int .i64 b1.2, .int .i64 b2.1, .int .i64 b2.2, .int .i64 c0.1, .int .i64 c0.2, .int .i64 c1.1, .int .i64 c1.2, .int .i64 c2.1, .int .i64 c2.2]) (y0 := (dV a0 a1 a2, [])) (y1 := (dV b0 b1 b2, [])) (y2 := (dV c0 c1 c2, [])) Try.underlying63 (by simp [cellsLM])
    (by simpa [cellsLW] using trod_ve a0 a1 a2 h0 h1 h2) (by simpa [cellsLW] using trod_ve b0 b1 b2 h3 h4 h5) (by simpa [cellsLW] using trod_ve c0 c1 c2 h6 h7 h8)
  simpa using this
theorem open_mat {r : Reach} {b : Nat} {v : Value} {d : DataW H} {p : List MemPlace} (hv : Value.okWide Try.prog w r b 63 v) (h : DataW.Trod enc Try.prog w base sp held 63 v d p) :
    ∃ a0 a1 a2 b0 b1 b2 c0 c1 c2 : Iv, v = .agg #[.int .i64 a0.1, .int .i64 a0.2, .int .i64 a1.1, .int .i64 a1.2, .int .i64 a2.1, .int .i64 a2.2, .int .i64 b0.1, .int .i64 b0.2, .int .i64 b1.1, .int .i64 b1.2, .int .i64 b2.1, .int .i64 b2.2, .int .i64 c0.1, .int .i64 c0.2, .int .i64 c1.1, .int .i64 c1.2, .int .i64 c2.1, .int .i64 c2.2] ∧ p = [] ∧ (Ok a0 ∧ Ok a1 ∧ Ok a2) ∧ (Ok b0 ∧ Ok b1 ∧ Ok b2) ∧ (Ok c0 ∧ Ok c1 ∧ Ok c2) ∧ ∀ (W' : World) (sp' : Nat → Bool), DataW.Trod enc Try.prog W' 0 sp' true 63 v d [] := by
  obtain ⟨cs, rfl, hsz⟩ := okWide_struct Try.underlying63 hv
  rw [cellsLM] at hsz
  obtain ⟨fuel, hf⟩ := h
  obtain ⟨y0, y1, y2, n, hx, hl, h0, h1, h2⟩ := trod_struct3 Try.underlying63 hf
  obtain ⟨l⟩ := cs
  simp only [Value.cells] at h0 h1 h2 hl
  rw [cellsLM] at hl
  match l, hl with
  | [k0, k1, k2, k3, k4, k5, k6, k7, k8, k9, k10, k11, k12, k13, k14, k15, k16, k17], _ =>
    simp only [cellsLW, List.drop, List.take] at h0 h1 h2
    obtain ⟨a0, a1, a2, u0, u1, u2, e0, x0⟩ := cells_ve h0
    obtain ⟨b0, b1, b2, u3, u4, u5, e1, x1⟩ := cells_ve h1
    obtain ⟨c0, c1, c2, u6, u7, u8, e2, x2⟩ := cells_ve h2
    simp at e0 e1 e2
    obtain ⟨rfl, rfl, rfl, rfl, rfl, rfl⟩ := e0
    obtain ⟨rfl, rfl, rfl, rfl, rfl, rfl⟩ := e1
    obtain ⟨rfl, rfl, rfl, rfl, rfl, rfl⟩ := e2
    rw [x0, x1, x2] at hx
    obtain ⟨rfl, rfl⟩ := Prod.mk.inj hx
    exact ⟨a0, a1, a2, b0, b1, b2, c0, c1, c2, rfl, rfl, ⟨u0.ok, u1.ok, u2.ok⟩, ⟨u3.ok, u4.ok, u5.ok⟩, ⟨u6.ok, u7.ok, u8.ok⟩, fun W' sp' => ⟨4, trod_ma a0 a1 a2 b0 b1 b2 c0 c1 c2 u0 u1 u2 u3 u4 u5 u6 u7 u8⟩⟩
end
end Go.Proofs.Ytmikjgbojknlnaa
