/- Contracts of the series of sines and cosines, program and model. Conditions: numbers are int64; the program's two intervals are laid. -/
import Derived.Test.YtpjhoelfhmbpdaaDoorNumT
import Derived.Test.YtpjhoelfhmbpdaaDoorIvD
import Derived.Test.YtpjhoelfhmbpdaaDoorIvE
import Derived.Test.YtpjhoelfhmbpdaaDoorIvF
import Derived.Test.YtpjhoelfhmbpdaaDoorIvN
import Derived.Test.YtpjhoelfhmbpdaaDoorIvM
import Derived.Test.YtpjhoelfhmbpdaaDoorIvW
import Derived.Test.YtpjhoelfhmbpdaaDoorIvX
import Derived.Test.YtpjhoelfhmbpdaaDoorIvT
import Derived.Test.YtpjhoelfhmbpdaaDoorIvS
import Derived.Test.YtpjhoelfhmbpdaaDoorIvR
import Derived.Test.YtpjhoelfhmbpdaaDoorIvV
import Derived.Test.YtpjhoelfhmbpdaaDoorIvLd
import Derived.LoopN
import Derived.Handy
import Derived.Deep.RegionWith
import Derived.Outline
namespace Go.Proofs.YtpjhoelfhmbpdaaDoor
open Go.ChangeShapes Go.WideShapes Go.ChangeAt Go.RowKit
set_option linter.unusedVariables false
set_option maxRecDepth 100000
set_option linter.unusedSimpArgs false
set_option maxHeartbeats 1000000
theorem serSin (k : Int) (h0 : 0 ≤ k) (h1 : k ≤ 8) (w : World) : Calls Tryd.prog 29 #[.int .i64 k] w fun e w' =>
    e = .returned (.int .i64 (2 * k)) ∧ Below w.heap.size w w' := by
  go_enter Tryd.func29, Tryd.ntmps29
  go_wp2
  go_ret
  exact ⟨rfl, (by repeat (first | exact Below.refl _ _ | refine Below.drew ?_ | refine below_dn ?_ _ | refine Below.setCell ?_ (by first | omega | (simp; done) | (simp; omega)) _ | refine Below.alloc ?_ (by first | omega | (simp; done) | (simp; omega)) _ | refine Below.trans ?_ (Below.mono (by assumption) (by first | omega | (simp; done) | (simp; omega)))))⟩
theorem serCos (k : Int) (h0 : 0 ≤ k) (h1 : k ≤ 8) (w : World) : Calls Tryd.prog 32 #[.int .i64 k] w fun e w' =>
    e = .returned (.int .i64 (2 * k - 1)) ∧ Below w.heap.size w w' := by
  go_enter Tryd.func32, Tryd.ntmps32
  go_wp2
  go_ret
  exact ⟨rfl, (by repeat (first | exact Below.refl _ _ | refine Below.drew ?_ | refine below_dn ?_ _ | refine Below.setCell ?_ (by first | omega | (simp; done) | (simp; omega)) _ | refine Below.alloc ?_ (by first | omega | (simp; done) | (simp; omega)) _ | refine Below.trans ?_ (Below.mono (by assumption) (by first | omega | (simp; done) | (simp; omega)))))⟩
theorem own_far {w : World} {p : Addr} {u v : Value} {b o : Nat} (n : p.block ≠ b) (h : Own w b o v) : Own (w.setCell p u) b o v := ⟨cell_far n h.1, by simpa using h.2⟩
theorem own_put {w : World} {u v : Value} {b o : Nat} (h : Own w b o v) : Own (w.setCell ⟨b, o, none⟩ u) b o u := ⟨World.cell?_setCell_same _ _ _ h.1, by simpa using h.2⟩
theorem own_next {w : World} {u v : Value} {b o o' : Nat} (n : o' ≠ o) (h : Own w b o v) : Own (w.setCell ⟨b, o', none⟩ u) b o v := ⟨cell_next n h.1, by simpa using h.2⟩
theorem mul_272 {A : Int} (a0 : 1 ≤ A) (a1 : A ≤ 16) : 0 ≤ A * (A + 1) ∧ A * (A + 1) ≤ 272 := by
  have h : A * (A + 1) ≤ 16 * 17 := Int.mul_le_mul a1 (show A + 1 ≤ 17 by omega) (by omega) (by omega)
  exact ⟨Int.mul_nonneg (by omega) (by omega), by omega⟩
end Go.Proofs.YtpjhoelfhmbpdaaDoor
