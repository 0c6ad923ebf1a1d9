/- The law of the decimal text of a Wide. Conditions: a Wide; the library's table of powers of ten is laid. -/
import Derived.Test.YtobfdggdpaggeaaDoorFmX
namespace Go.Proofs.YtobfdggdpaggeaaDoor
open Go.ChangeShapes Go.WideShapes Go.ChangeAt Go.RowKit
set_option linter.unusedVariables false
set_option maxRecDepth 100000
set_option linter.unusedSimpArgs false
set_option maxHeartbeats 1000000

theorem law_WideText (h l : Int) (hh : In64 h) (hl : InU l) (w : World) (ht : Tab w) : Calls Tryd.prog 5 #[.agg #[.int .i64 h, .int .u64 l]] w fun e w' =>
    e = .returned (.bool true) ∧ Below w.heap.size w w' := by
  obtain ⟨v, hv, rfl, rfl⟩ := of_halves h l hh hl
  have S := Lib.hid (fun w => sWideText_any v hv w)
  have P := Lib.hid (fun w ht => WideText_any v hv w ht)
  have T1 := Lib.hid (fun w' (hb : Below w.heap.size w w') => tab_below ht hb)
  clear ht
  generalize (Lib.itoa v).toArray = t at *
  go_enter Tryd.func5, Tryd.ntmps5
  go_wp2_with fail
  refine (toWide_any _ _ _).mono ?_
  rintro e w1 ⟨rfl, hb1⟩
  have hs1 : _ ≤ w1.heap.size := hb1.size
  try simp at hs1
  obtain ⟨hc1, hf1⟩ := old_kept hb1; have hz1 : w.heap.size < w1.heap.size := Nat.lt_of_lt_of_le (by first | omega | (simp; done) | (simp; omega)) hb1.size
  go_wp2_with fail
  refine (S.out _).mono ?_
  rintro e w2 ⟨rfl, hb2⟩
  have hs2 : _ ≤ w2.heap.size := hb2.size
  try simp at hs2
  obtain ⟨hc2, hf2⟩ := old_kept hb2; have hz2 : w.heap.size < w2.heap.size := Nat.lt_of_lt_of_le (by first | omega | (simp; done) | (simp; omega)) hb2.size
  go_wp2_with fail
  refine (toWide_any _ _ _).mono ?_
  rintro e w3 ⟨rfl, hb3⟩
  have hs3 : _ ≤ w3.heap.size := hb3.size
  try simp at hs3
  go_wp2_with fail
  refine (P.out _ (T1.out _ belB)).mono ?_
  rintro e w4 ⟨rfl, hb4⟩
  have hs4 : _ ≤ w4.heap.size := hb4.size
  try simp at hs4
  go_wp2
  go_ret
  exact ⟨rfl, belB⟩
end Go.Proofs.YtobfdggdpaggeaaDoor
