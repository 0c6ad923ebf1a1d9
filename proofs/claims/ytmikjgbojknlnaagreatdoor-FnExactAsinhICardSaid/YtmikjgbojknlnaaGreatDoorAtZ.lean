/- The program's two intervals: what a call keeps; own cells behind stores; small contracts. Conditions: as each lemma says. -/
import Derived.Test.YtmikjgbojknlnaaGreatDoorAnyS
import Derived.Test.YtmikjgbojknlnaaGreatDoorNumX
import Derived.Test.YtmikjgbojknlnaaGreatDoorIvA
import Derived.Test.YtmikjgbojknlnaaGreatDoorIvV
import Derived.Deep.RegionHeld3
import Derived.Outline
namespace Go.Proofs.YtmikjgbojknlnaaGreatDoor
open Go.ChangeShapes Go.WideShapes Go.ChangeAt Go.RowKit
set_option linter.unusedVariables false
set_option maxRecDepth 100000
set_option linter.unusedSimpArgs false
set_option maxHeartbeats 1000000
/-- The two intervals that the program keeps. -/
def Glo (w : World) : Prop := w.cell? ⟨0, 0, none⟩ = some (.int .i64 (-4294967296)) ∧ w.cell? ⟨0, 1, none⟩ = some (.int .i64 4294967296) ∧ w.cell? ⟨1, 0, none⟩ = some (.int .i64 (-1)) ∧ w.cell? ⟨1, 1, none⟩ = some (.int .i64 1)
theorem Glo.kept {w w1 : World} (h : Glo w) (hb : Below w.heap.size w w1) : Glo w1 := ⟨cell_kept hb h.1, cell_kept hb h.2.1, cell_kept hb h.2.2.1, cell_kept hb h.2.2.2⟩
theorem Glo.alloc {w : World} (h : Glo w) (o : Obj) : Glo (w.alloc o) := h.kept ((Below.refl _ _).alloc (Nat.le_refl _) _)
theorem Glo.drew {w : World} (h : Glo w) : Glo w.drew := h
theorem Glo.set {w : World} (h : Glo w) {p : Addr} {u : Value} (n0 : p.block ≠ 0) (n1 : p.block ≠ 1) : Glo (w.setCell p u) := ⟨cell_far n0 h.1, cell_far n0 h.2.1, cell_far n1 h.2.2.1, cell_far n1 h.2.2.2⟩
theorem Glo.lt {w : World} (h : Glo w) : 0 < w.heap.size ∧ 1 < w.heap.size := ⟨World.block_lt_of_cell? _ _ h.1, World.block_lt_of_cell? _ _ h.2.2.1⟩
theorem l06Ring_any (w : World) : Calls Tryz.prog 79 #[] w fun e w' =>
    e = .returned (.agg #[.int .i64 (-4294967296), .int .i64 4294967296]) ∧ Below w.heap.size w w' := by
  go_enter Tryz.func79, Tryz.ntmps79
  go_wp2
  exact bodyPost_ret (v := .agg #[.int .i64 (-4294967296), .int .i64 4294967296]) (by simp [results, Tryz.results79, go_sem]) rfl ⟨rfl, belB⟩
theorem l06Tiny_any (w : World) : Calls Tryz.prog 188 #[] w fun e w' =>
    e = .returned (.agg #[.int .i64 (-1), .int .i64 1]) ∧ Below w.heap.size w w' := by
  go_enter Tryz.func188, Tryz.ntmps188
  go_wp2
  exact bodyPost_ret (v := .agg #[.int .i64 (-1), .int .i64 1]) (by simp [results, Tryz.results188, go_sem]) rfl ⟨rfl, belB⟩
theorem single_any (n : Int) (w : World) : Calls Tryz.prog 72 #[.int .i64 n] w fun e w' =>
    e = .returned (.agg #[.int .i64 n, .int .i64 n]) ∧ Below w.heap.size w w' := by
  go_enter Tryz.func72, Tryz.ntmps72
  go_wp2
  exact bodyPost_ret (v := .agg #[.int .i64 n, .int .i64 n]) (by simp [results, Tryz.results72, go_sem]) rfl ⟨rfl, belB⟩
theorem l05At_any (n : Int) (w : World) : Calls Tryz.prog 65 #[.int .i64 n] w fun e w' =>
    e = .returned (.agg #[.int .i64 n, .int .i64 n]) ∧ Below w.heap.size w w' := by
  go_enter Tryz.func65, Tryz.ntmps65
  go_wp2
  exact bodyPost_ret (v := .agg #[.int .i64 n, .int .i64 n]) (by simp [results, Tryz.results65, go_sem]) rfl ⟨rfl, belB⟩
def GloR (w : World) : Prop := w.cell? ⟨0, 0, none⟩ = some (.int .i64 (-4294967296)) ∧ w.cell? ⟨0, 1, none⟩ = some (.int .i64 4294967296)
theorem GloR.kept {w w1 : World} (h : GloR w) (hb : Below w.heap.size w w1) : GloR w1 := ⟨cell_kept hb h.1, cell_kept hb h.2⟩
theorem GloR.alloc {w : World} (h : GloR w) (o : Obj) : GloR (w.alloc o) := h.kept ((Below.refl _ _).alloc (Nat.le_refl _) _)
theorem GloR.drew {w : World} (h : GloR w) : GloR w.drew := h
theorem GloR.set {w : World} (h : GloR w) {p : Addr} {u : Value} (n : p.block ≠ 0) : GloR (w.setCell p u) := ⟨cell_far n h.1, cell_far n h.2⟩
theorem GloR.lt {w : World} (h : GloR w) : 0 < w.heap.size := World.block_lt_of_cell? _ _ h.1
def GloT (w : World) : Prop := w.cell? ⟨1, 0, none⟩ = some (.int .i64 (-1)) ∧ w.cell? ⟨1, 1, none⟩ = some (.int .i64 1)
theorem GloT.kept {w w1 : World} (h : GloT w) (hb : Below w.heap.size w w1) : GloT w1 := ⟨cell_kept hb h.1, cell_kept hb h.2⟩
theorem GloT.alloc {w : World} (h : GloT w) (o : Obj) : GloT (w.alloc o) := h.kept ((Below.refl _ _).alloc (Nat.le_refl _) _)
theorem GloT.drew {w : World} (h : GloT w) : GloT w.drew := h
theorem GloT.set {w : World} (h : GloT w) {p : Addr} {u : Value} (n : p.block ≠ 1) : GloT (w.setCell p u) := ⟨cell_far n h.1, cell_far n h.2⟩
theorem GloT.lt {w : World} (h : GloT w) : 1 < w.heap.size := World.block_lt_of_cell? _ _ h.1
theorem GloT.mk {w : World} (h0 : w.cell? ⟨1, 0, none⟩ = some (.int .i64 (-1))) (h1 : w.cell? ⟨1, 1, none⟩ = some (.int .i64 1)) : GloT w := ⟨h0, h1⟩
theorem Glo.mk {w : World} (h0 : w.cell? ⟨0, 0, none⟩ = some (.int .i64 (-4294967296))) (h1 : w.cell? ⟨0, 1, none⟩ = some (.int .i64 4294967296)) (h2 : w.cell? ⟨1, 0, none⟩ = some (.int .i64 (-1))) (h3 : w.cell? ⟨1, 1, none⟩ = some (.int .i64 1)) : Glo w := ⟨h0, h1, h2, h3⟩
theorem Glo.r {w : World} (h : Glo w) : GloR w := ⟨h.1, h.2.1⟩
theorem Glo.t {w : World} (h : Glo w) : GloT w := ⟨h.2.2.1, h.2.2.2⟩
end Go.Proofs.YtmikjgbojknlnaaGreatDoor
