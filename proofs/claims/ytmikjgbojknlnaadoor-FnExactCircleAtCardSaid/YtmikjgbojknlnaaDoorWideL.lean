/- The contract of WideDiv, the program's. Conditions: a Wide and an int64. -/
import Derived.Test.YtmikjgbojknlnaaDoorWideK
import Derived.Test.YtmikjgbojknlnaaDoorNumZ
import Derived.Test.YtmikjgbojknlnaaDoorWideZe
import Derived.Deep.RegionHeld3
namespace Go.Proofs.YtmikjgbojknlnaaDoor
open Go.ChangeShapes Go.WideShapes Go.ChangeAt Go.RowKit
set_option linter.unusedVariables false
set_option maxRecDepth 100000
set_option linter.unusedSimpArgs false
set_option maxHeartbeats 1000000

theorem magnitudeOf_any (v : Int) (hv : InW v) (w : World) : Calls Tryd.prog 31 #[.agg #[.int .i64 (hiW v), .int .u64 (loW v)]] w fun e w' =>
    e = .returned (.agg #[.int .u64 (hiW (v.natAbs : Int)), .int .u64 (loW (v.natAbs : Int))]) ∧ Below w.heap.size w w' := by
  by_cases s : v < 0
  · have E0 := Lib.hid (show (v.natAbs : Int) = -v by omega)
    have E1 := Lib.hid (abs_neg hv s)
    have s0 : hiW v < 0 := hi_neg_iff.2 s
    clear s
    go_enter Tryd.func31, Tryd.ntmps31
    go_wp2_with fail
    refine (negative_any v hv _).mono ?_
    rintro e w1 ⟨rfl, hb1⟩
    have hs1 : _ ≤ w1.heap.size := hb1.size
    try simp at hs1
    obtain ⟨hc1, hf1⟩ := old_kept hb1; have hz1 : w.heap.size + 1 < w1.heap.size := Nat.lt_of_lt_of_le (by first | omega | (simp; done) | (simp; omega)) hb1.size; have hz1a : w.heap.size < w1.heap.size := Nat.lt_of_lt_of_le (by first | omega | (simp; done) | (simp; omega)) hb1.size
    have k10 := hc1 (w.heap.size) 0 (by first | assumption | omega | (simp; done) | (simp; omega)); have k11 := hc1 (w.heap.size) 1 (by first | assumption | omega | (simp; done) | (simp; omega))
    obtain ⟨k10', k11'⟩ : w1.cell? ⟨w.heap.size + 1, 0, none⟩ = some (.int .u64 0) ∧ w1.cell? ⟨w.heap.size + 1, 1, none⟩ = some (.int .u64 0) := by constructor <;> (rw [hc1 _ _ (by simp)]; simp)
    go_wp2
    exact bodyPost_ret (v := .agg #[.int .u64 (IntKind.u64.wrap (hiW (negW v))), .int .u64 (loW (negW v))]) (by simp [results, Tryd.results31, go_sem, k10', k11']) rfl ⟨by rw [wrapU, E0.out, E1.out.1, E1.out.2], belB⟩
  · have E0 := Lib.hid (show (v.natAbs : Int) = v by omega)
    have E1 := Lib.hid (abs_pos hv s)
    have s0 : ¬ hiW v < 0 := fun h => s (hi_neg_iff.1 h)
    clear s
    go_enter Tryd.func31, Tryd.ntmps31
    go_wp2
    exact bodyPost_ret (v := .agg #[.int .u64 (IntKind.u64.wrap (hiW v)), .int .u64 (loW v)]) (by simp [results, Tryd.results31, go_sem]) rfl ⟨by rw [wrapU, E0.out, E1.out.1], belB⟩
end Go.Proofs.YtmikjgbojknlnaaDoor
