/- The program's two intervals: what a call keeps; own cells behind stores; small contracts. Conditions: as each lemma says. -/
import Derived.Test.YtmikjgbojknlnaaDoorAnyS
import Derived.Test.YtmikjgbojknlnaaDoorNumX
import Derived.Test.YtmikjgbojknlnaaDoorIvA
import Derived.Test.YtmikjgbojknlnaaDoorIvV
import Derived.Deep.RegionHeld3
import Derived.Outline
namespace Go.Proofs.YtmikjgbojknlnaaDoor
open Go.ChangeShapes Go.WideShapes Go.ChangeAt Go.RowKit
set_option linter.unusedVariables false
set_option maxRecDepth 100000
set_option linter.unusedSimpArgs false
set_option maxHeartbeats 1000000
def GloR (w : World) : Prop := w.cell? ⟨0, 0, none⟩ = some (.int .i64 (-4294967296)) ∧ w.cell? ⟨0, 1, none⟩ = some (.int .i64 4294967296)
theorem GloR.kept {w w1 : World} (h : GloR w) (hb : Below w.heap.size w w1) : GloR w1 := ⟨cell_kept hb h.1, cell_kept hb h.2⟩
theorem GloR.alloc {w : World} (h : GloR w) (o : Obj) : GloR (w.alloc o) := h.kept ((Below.refl _ _).alloc (Nat.le_refl _) _)
theorem GloR.drew {w : World} (h : GloR w) : GloR w.drew := h
theorem GloR.set {w : World} (h : GloR w) {p : Addr} {u : Value} (n : p.block ≠ 0) : GloR (w.setCell p u) := ⟨cell_far n h.1, cell_far n h.2⟩
theorem GloR.lt {w : World} (h : GloR w) : 0 < w.heap.size := World.block_lt_of_cell? _ _ h.1
end Go.Proofs.YtmikjgbojknlnaaDoor
