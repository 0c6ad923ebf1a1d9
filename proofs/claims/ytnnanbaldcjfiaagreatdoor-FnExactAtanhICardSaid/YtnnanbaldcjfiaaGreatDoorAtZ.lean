/- The program's two intervals: what a call keeps; own cells behind stores; small contracts. Conditions: as each lemma says. -/
import Derived.Test.YtnnanbaldcjfiaaGreatDoorAnyS
import Derived.Test.YtnnanbaldcjfiaaGreatDoorNumX
import Derived.Test.YtnnanbaldcjfiaaGreatDoorIvA
import Derived.Test.YtnnanbaldcjfiaaGreatDoorIvV
import Derived.Deep.RegionHeld3
import Derived.Outline
namespace Go.Proofs.YtnnanbaldcjfiaaGreatDoor
open Go.ChangeShapes Go.WideShapes Go.ChangeAt Go.RowKit
set_option linter.unusedVariables false
set_option maxRecDepth 100000
set_option linter.unusedSimpArgs false
set_option maxHeartbeats 1000000
theorem single_any (n : Int) (w : World) : Calls Tryz.prog 45 #[.int .i64 n] w fun e w' =>
    e = .returned (.agg #[.int .i64 n, .int .i64 n]) ∧ Below w.heap.size w w' := by
  go_enter Tryz.func45, Tryz.ntmps45
  go_wp2
  exact bodyPost_ret (v := .agg #[.int .i64 n, .int .i64 n]) (by simp [results, Tryz.results45, go_sem]) rfl ⟨rfl, belB⟩
def GloT (w : World) : Prop := w.cell? ⟨0, 0, none⟩ = some (.int .i64 (-1)) ∧ w.cell? ⟨0, 1, none⟩ = some (.int .i64 1)
theorem GloT.kept {w w1 : World} (h : GloT w) (hb : Below w.heap.size w w1) : GloT w1 := ⟨cell_kept hb h.1, cell_kept hb h.2⟩
theorem GloT.alloc {w : World} (h : GloT w) (o : Obj) : GloT (w.alloc o) := h.kept ((Below.refl _ _).alloc (Nat.le_refl _) _)
theorem GloT.drew {w : World} (h : GloT w) : GloT w.drew := h
theorem GloT.set {w : World} (h : GloT w) {p : Addr} {u : Value} (n : p.block ≠ 0) : GloT (w.setCell p u) := ⟨cell_far n h.1, cell_far n h.2⟩
theorem GloT.lt {w : World} (h : GloT w) : 0 < w.heap.size := World.block_lt_of_cell? _ _ h.1
theorem GloT.mk {w : World} (h0 : w.cell? ⟨0, 0, none⟩ = some (.int .i64 (-1))) (h1 : w.cell? ⟨0, 1, none⟩ = some (.int .i64 1)) : GloT w := ⟨h0, h1⟩
end Go.Proofs.YtnnanbaldcjfiaaGreatDoor
