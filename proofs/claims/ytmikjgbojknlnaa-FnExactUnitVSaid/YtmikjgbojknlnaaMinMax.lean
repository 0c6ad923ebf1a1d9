/- The built-in min and max of two numbers as Lean's own, so that a walk does not part there. No conditions. -/
import Derived.Test.YtmikjgbojknlnaaBase
import Derived.Laws.Small
namespace Go.Proofs.Ytmikjgbojknlnaa
open Go.ChangeShapes Go.WideShapes Go.ChangeAt Go.RowKit
set_option linter.unusedVariables false
set_option maxRecDepth 100000
set_option linter.unusedSimpArgs false
set_option maxHeartbeats 1000000
theorem run_min_ends {P : Program} {w : World} (ts : Array TypeId) (t : TypeId) (k k' : IntKind) (x y : Int) : (Builtin.min_ ts t #[.int k x, .int k' y]).run P w = .ok (.int k (min x y)) w := by
  rw [run_min_int2]
  have e : (if y < x then y else x) = min x y := by split <;> omega
  rw [e]
theorem run_max_ends {P : Program} {w : World} (ts : Array TypeId) (t : TypeId) (k k' : IntKind) (x y : Int) : (Builtin.max_ ts t #[.int k x, .int k' y]).run P w = .ok (.int k (max x y)) w := by
  rw [run_max_int2]
  first
  | (have e : (if x < y then y else x) = max x y := by split <;> omega
     rw [e])
  | (have e : (if y < x then x else y) = max x y := by split <;> omega
     rw [e])
/-- A cell that may be written, whatever it holds. -/
theorem slot_of {w : World} {a : Addr} {v : Value} (h : w.cell? a = some v) (f : w.frozen? a = false) : (w.cell? a).isSome = true ∧ w.frozen? a = false := ⟨by rw [h]; rfl, f⟩
theorem slot_lt {w : World} {a : Addr} (h : (w.cell? a).isSome = true) : a.block < w.heap.size := by
  cases e : w.cell? a with
  | none => rw [e] at h; cases h
  | some v => exact World.block_lt_of_cell? w a e
theorem slot_kept {w w1 : World} (hb : Below w.heap.size w w1) {a : Addr} (h : (w.cell? a).isSome = true ∧ w.frozen? a = false) : (w1.cell? a).isSome = true ∧ w1.frozen? a = false :=
  ⟨by rw [hb.cell (slot_lt h.1)]; exact h.1, by rw [hb.frozen (slot_lt h.1)]; exact h.2⟩
theorem slot_drew {w : World} {a : Addr} (h : (w.cell? a).isSome = true ∧ w.frozen? a = false) : (w.drew.cell? a).isSome = true ∧ w.drew.frozen? a = false := h
theorem slot_alloc {w : World} {x : Obj} {a : Addr} (h : (w.cell? a).isSome = true ∧ w.frozen? a = false) : ((w.alloc x).cell? a).isSome = true ∧ (w.alloc x).frozen? a = false :=
  slot_kept ((Below.refl _ _).alloc (Nat.le_refl _) _) h
theorem slot_set {w : World} {p a : Addr} {u : Value} (h : (w.cell? a).isSome = true ∧ w.frozen? a = false) : ((w.setCell p u).cell? a).isSome = true ∧ (w.setCell p u).frozen? a = false := by
  refine ⟨?_, by simpa using h.2⟩
  by_cases e : p = a
  · subst e; rw [World.cell?_setCell_same' w p u h.1]; rfl
  · rw [World.cell?_setCell_other w p a u e]; exact h.1
/-- What a cell holds, whatever it is. -/
def peek (w : World) (a : Addr) : Value := (w.cell? a).getD (.int .i64 0)
theorem peek_iff {w : World} {a : Addr} : w.cell? a = some (peek w a) ↔ (w.cell? a).isSome = true := by
  unfold peek
  cases w.cell? a with
  | none => simp
  | some v => simp
theorem pslot_of {w : World} {a : Addr} {v : Value} (h : w.cell? a = some v) (f : w.frozen? a = false) : w.cell? a = some (peek w a) ∧ w.frozen? a = false := ⟨peek_iff.2 (by rw [h]; rfl), f⟩
theorem pslot_kept {w w1 : World} (hb : Below w.heap.size w w1) {a : Addr} (h : w.cell? a = some (peek w a) ∧ w.frozen? a = false) : w1.cell? a = some (peek w1 a) ∧ w1.frozen? a = false :=
  have k := slot_kept hb ⟨peek_iff.1 h.1, h.2⟩
  ⟨peek_iff.2 k.1, k.2⟩
theorem pslot_drew {w : World} {a : Addr} (h : w.cell? a = some (peek w a) ∧ w.frozen? a = false) : w.drew.cell? a = some (peek w.drew a) ∧ w.drew.frozen? a = false := h
theorem pslot_alloc {w : World} {x : Obj} {a : Addr} (h : w.cell? a = some (peek w a) ∧ w.frozen? a = false) : (w.alloc x).cell? a = some (peek (w.alloc x) a) ∧ (w.alloc x).frozen? a = false :=
  pslot_kept ((Below.refl _ _).alloc (Nat.le_refl _) _) h
theorem pslot_set {w : World} {p a : Addr} {u : Value} (h : w.cell? a = some (peek w a) ∧ w.frozen? a = false) : (w.setCell p u).cell? a = some (peek (w.setCell p u) a) ∧ (w.setCell p u).frozen? a = false :=
  have k := slot_set (p := p) (u := u) ⟨peek_iff.1 h.1, h.2⟩
  ⟨peek_iff.2 k.1, k.2⟩
end Go.Proofs.Ytmikjgbojknlnaa
