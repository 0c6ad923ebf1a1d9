/- Small lemmas on worlds that the proofs of this seat share: what stays where a call has only made new memory, and the last step of a row where nothing more than that is known. No conditions beyond each lemma's own. -/
import Derived.Test.YtmikjgbojknlnaaRows
import Derived.WalkKit
import Derived.ProofKit
import Derived.OpenShut
import Derived.Below
import Derived.ChangeSame
import Derived.Lib.Hide
import Derived.Lib.SmallJoins
import Derived.IntWalk
import Derived.WalkSpells
namespace Go.Proofs.Ytmikjgbojknlnaa
open Go.ChangeShapes Go.WideShapes Go.ChangeAt Go.RowKit

theorem own : ownKnob Try.prog.godebug = none := by kernel_rfl

/-- Old cells and old marks read as before. -/
theorem old_kept {W w1 : World} (hb : Below W.heap.size W w1) :
    (∀ b o, b < W.heap.size → w1.cell? ⟨b, o, none⟩ = W.cell? ⟨b, o, none⟩) ∧
    (∀ b o, b < W.heap.size → w1.frozen? ⟨b, o, none⟩ = W.frozen? ⟨b, o, none⟩) :=
  ⟨fun b o h => hb.cell (p := ⟨b, o, none⟩) h, fun b o h => hb.frozen (p := ⟨b, o, none⟩) h⟩

/-- A number is less than itself and some: for the walk, which counts blocks one by one. -/
theorem below_add : (∀ n : Nat, n < n + 1 + 1) ∧ (∀ n : Nat, n < n + 1 + 1 + 1) ∧ (∀ n : Nat, n < n + 1 + 1 + 1 + 1) ∧ (∀ n : Nat, n < n + 1 + 1 + 1 + 1 + 1) ∧ (∀ n : Nat, n < n + 1 + 1 + 1 + 1 + 1 + 1) ∧ (∀ n : Nat, n < n + 1 + 1 + 1 + 1 + 1 + 1 + 1) ∧ (∀ n : Nat, n < n + 1 + 1 + 1 + 1 + 1 + 1 + 1 + 1) ∧ (∀ n : Nat, n < n + 1 + 1 + 1 + 1 + 1 + 1 + 1 + 1 + 1) ∧ (∀ n : Nat, n < n + 1 + 1 + 1 + 1 + 1 + 1 + 1 + 1 + 1 + 1) ∧ (∀ n : Nat, n < n + 1 + 1 + 1 + 1 + 1 + 1 + 1 + 1 + 1 + 1 + 1) :=
  ⟨fun _ => by omega, fun _ => by omega, fun _ => by omega, fun _ => by omega, fun _ => by omega, fun _ => by omega, fun _ => by omega, fun _ => by omega, fun _ => by omega, fun _ => by omega⟩
theorem below_more {n m : Nat} (h : n < m) : n < m + 1 ∧ n < m + 1 + 1 ∧ n < m + 1 + 1 + 1 ∧ n < m + 1 + 1 + 1 + 1 ∧ n < m + 1 + 1 + 1 + 1 + 1 ∧ n < m + 1 + 1 + 1 + 1 + 1 + 1 ∧ n < m + 1 + 1 + 1 + 1 + 1 + 1 + 1 ∧ n < m + 1 + 1 + 1 + 1 + 1 + 1 + 1 + 1 ∧ n < m + 1 + 1 + 1 + 1 + 1 + 1 + 1 + 1 + 1 :=
  ⟨by omega, by omega, by omega, by omega, by omega, by omega, by omega, by omega, by omega⟩
/-- The same, with the sizes, each fact as a rule for every block. -/
theorem behind {W w1 : World} (hb : Below W.heap.size W w1) :
    (∀ b o, b < W.heap.size → w1.cell? ⟨b, o, none⟩ = W.cell? ⟨b, o, none⟩) ∧
    (∀ b o, b < W.heap.size → w1.frozen? ⟨b, o, none⟩ = W.frozen? ⟨b, o, none⟩) ∧
    (∀ k, k < W.heap.size → k < w1.heap.size) ∧ (∀ k, k < W.heap.size → ¬ w1.heap.size = k) ∧ (∀ k, k < W.heap.size → ¬ k = w1.heap.size) :=
  ⟨(old_kept hb).1, (old_kept hb).2, fun _ h => Nat.lt_of_lt_of_le h hb.size, fun _ h => Nat.ne_of_gt (Nat.lt_of_lt_of_le h hb.size), fun _ h => Nat.ne_of_lt (Nat.lt_of_lt_of_le h hb.size)⟩

/-- What a cell holds stays behind a call that makes memory, behind a draw and behind a new block. -/
theorem cell_kept {w w1 : World} (hb : Below w.heap.size w w1) {a : Addr} {v : Value} (h : w.cell? a = some v) : w1.cell? a = some v :=
  (hb.cell (World.block_lt_of_cell? w a h)).trans h
theorem cell_drew {w : World} {a : Addr} {v : Value} (h : w.cell? a = some v) : w.drew.cell? a = some v := h
theorem cell_drewN {w : World} {n : Nat} {a : Addr} {v : Value} (h : w.cell? a = some v) : (w.drewN n).cell? a = some v := h
theorem cell_alloc {w : World} {o : Obj} {b i : Nat} {v : Value} (h : w.cell? ⟨b, i, none⟩ = some v) : (w.alloc o).cell? ⟨b, i, none⟩ = some v :=
  (World.cell?_alloc_past o b i (World.block_lt_of_cell? w _ h)).trans h
theorem cell_far {w : World} {p a : Addr} {u v : Value} (n : p.block ≠ a.block) (h : w.cell? a = some v) : (w.setCell p u).cell? a = some v :=
  (World.cell?_setCell_other w p a u (fun e => n (by rw [e]))).trans h
theorem cell_next {w : World} {p a : Addr} {u v : Value} (n : p.off ≠ a.off) (h : w.cell? a = some v) : (w.setCell p u).cell? a = some v :=
  (World.cell?_setCell_other w p a u (fun e => n (by rw [e]))).trans h

/-- A cell of the call's own: what it holds, and that it may be written. -/
def Own (w : World) (b o : Nat) (v : Value) : Prop := w.cell? ⟨b, o, none⟩ = some v ∧ w.frozen? ⟨b, o, none⟩ = false
theorem own_kept {w w1 : World} (hb : Below w.heap.size w w1) {b o : Nat} {v : Value} (h : Own w b o v) : Own w1 b o v :=
  ⟨cell_kept hb h.1, (hb.frozen (p := ⟨b, o, none⟩) (World.block_lt_of_cell? w _ h.1)).trans h.2⟩
theorem own_drew {w : World} {b o : Nat} {v : Value} (h : Own w b o v) : Own w.drew b o v := h
theorem own_drewN {w : World} {n b o : Nat} {v : Value} (h : Own w b o v) : Own (w.drewN n) b o v := h
theorem own_alloc {w : World} {x : Obj} {b o : Nat} {v : Value} (h : Own w b o v) : Own (w.alloc x) b o v :=
  own_kept ((Below.refl _ _).alloc (Nat.le_refl _) _) h

section
variable {H : Type} {enc : TypeId × Value → H} {P : Program}
/-- The last step of a row whose call has left all old memory as it was. -/
theorem closes {f : Func} {s : ChangeSpec} {apart fresh handsOn again : Bool} {W W' : World} {args : Array Value} {v : Value}
    {ds gs : List (DataW H)} {before pa pv : List MemPlace}
    (hb : Below W.heap.size W W')
    (hW : DataW.Whole enc P f.params.toList s.vars apart W args.toList ds gs before)
    (hps : before = pa ++ pv)
    (hres : ∀ (b : Nat) (sp : Nat → Bool) (hd : Bool), DataW.TrodAll enc P W' b sp hd f.resultTypes.toList (v.resultList f.resultTypes.size) (s.fn H (ds ++ gs)).results [])
    (hargs : ∀ sp : Nat → Bool, (∀ p ∈ before, sp p.block = true) → DataW.TrodAll enc P W' 0 sp true f.params.toList args.toList (s.fn H (ds ++ gs)).args pa)
    (hvars : ∀ sp : Nat → Bool, (∀ p ∈ before, sp p.block = true) → DataW.TrodVars enc P W' sp s.vars (s.fn H (ds ++ gs)).vars pv)
    (hok : ∀ (j : Nat) (t : TypeId) (r : Value), f.resultTypes[j]? = some t → (v.resultList f.resultTypes.size)[j]? = some r → Value.okWide P W' .any 0 t r) :
    s.post enc P f apart fresh handsOn again W args v W' := by
  have old : ∀ p ∈ before, p.block < W.heap.size := fun p hp => hW.lt p hp
  have seen : ∀ p ∈ before, (fun b => decide (b < W.heap.size)) p.block = true := fun p hp => decide_eq_true (old p hp)
  have frame : W.keptBut W' (fun p => p ∈ before ∧ (p ∈ [] ∨ p ∈ pa ∨ p ∈ pv)) :=
    hb.frame _
  obtain ⟨_, _, _, _, _, thaw, apartOf⟩ := id hW
  refine ⟨ds, gs, before, [], pa, pv, hW, hres _ _ _, hargs _ seen, hvars _ seen, frame, fun _ => ?_⟩
  refine ⟨hok, _, _, ([] ++ pa) ++ pv, ⟨[] ++ pa, pv, trodAll_append (hargs _ (fun _ _ => rfl)) (hres _ _ _), hvars _ (fun _ _ => rfl), rfl, ?_, ?_⟩, ?_⟩
  · intro b off hp
    have inn : MemPlace.cell b off ∈ before := by subst hps; simpa using hp
    exact (hb.frozen (old _ inn)).trans (thaw b off inn)
  · intro ha
    have h := apartOf ha
    subst hps
    simpa using h
  · intro p hp _
    subst hps
    simpa using hp
end
theorem below_dn {B : Nat} {a w : World} (h : Below B a w) (n : Nat) : Below B a (w.drewN n) := ⟨h.os, h.tape, h.output, h.size, h.block⟩
theorem own_far {w : World} {p : Addr} {u v : Value} {b o : Nat} (n : p.block ≠ b) (h : Own w b o v) : Own (w.setCell p u) b o v := ⟨cell_far n h.1, by simpa using h.2⟩
theorem own_put {w : World} {u v : Value} {b o : Nat} (h : Own w b o v) : Own (w.setCell ⟨b, o, none⟩ u) b o u := ⟨World.cell?_setCell_same _ _ _ h.1, by simpa using h.2⟩
theorem own_next {w : World} {u v : Value} {b o o' : Nat} (n : o' ≠ o) (h : Own w b o v) : Own (w.setCell ⟨b, o', none⟩ u) b o v := ⟨cell_next n h.1, by simpa using h.2⟩
theorem ownJ {w : World} {b o : Nat} {v : Value} (h : Own w b o v := by repeat (first | (with_reducible assumption) | (with_reducible refine own_drew ?_) | (with_reducible refine own_drewN ?_) | (with_reducible refine own_kept (by assumption) ?_) | (refine ⟨?_, ?_⟩ <;> simp [go_sem]; done) | (with_reducible refine own_alloc ?_))) : Own w b o v := h
theorem belB {B : Nat} {a w : World} (h : Below B a w := by repeat (first | exact Below.refl _ _ | refine Below.drew ?_ | refine below_dn ?_ _ | refine Below.setCell ?_ (by first | omega | (simp; done) | (simp; omega)) _ | refine Below.alloc ?_ (by first | omega | (simp; done) | (simp; omega)) _ | refine Below.trans ?_ (Below.mono (by assumption) (by first | omega | (simp; done) | (simp; omega))))) : Below B a w := h
theorem celK {w : World} {a : Addr} {v : Value} (h : w.cell? a = some v := by repeat (first | (with_reducible assumption) | (with_reducible refine cell_far (by first | (simp; done) | (simp; omega)) ?_) | (with_reducible refine cell_drew ?_) | (with_reducible refine cell_drewN ?_) | (with_reducible refine cell_kept (by assumption) ?_) | (simp [go_sem]; done) | (with_reducible refine cell_alloc ?_))) : w.cell? a = some v := h
end Go.Proofs.Ytmikjgbojknlnaa
