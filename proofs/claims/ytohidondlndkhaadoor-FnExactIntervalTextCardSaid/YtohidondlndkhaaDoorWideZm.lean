/- The contracts of WideDiv, program and model alike. Conditions: a Wide and an int64. The contracts of MulDivFloor, program and model alike, and the laws of WideDiv and MulDivFloor. Conditions: numbers are int64 or Wide. -/
import Derived.Test.YtohidondlndkhaaDoorWideL
import Derived.Test.YtohidondlndkhaaDoorWideH
namespace Go.Proofs.YtohidondlndkhaaDoor
open Go.ChangeShapes Go.WideShapes Go.ChangeAt Go.RowKit
set_option linter.unusedVariables false
set_option maxRecDepth 100000
set_option linter.unusedSimpArgs false
set_option maxHeartbeats 1000000

theorem WideDiv_neg (v d : Int) (hv : InW v) (hd : In64 d) (d0 : 1 ≤ d) (s : v < 0) (w : World) : Calls Tryd.prog 31 #[.agg #[.int .i64 (hiW v), .int .u64 (loW v)], .int .i64 d] w fun e w' =>
    e = .returned (.tuple #[.agg #[.int .i64 (hiW (quoW v d)), .int .u64 (loW (quoW v d))], .int .i64 (remW v d), .bool (okD d)]) ∧ Below w.heap.size w w' := by
  have E1 := Lib.hid (show quoW v d = v / d from if_pos d0)
  have E2 := Lib.hid (show remW v d = v % d from if_pos d0)
  have E3 := Lib.hid (show okD d = true from decide_eq_true d0)
  have F1 := Lib.hid (show quoW (-1 - v) d = (-1 - v) / d from if_pos d0)
  have F2 := Lib.hid (show remW (-1 - v) d = (-1 - v) % d from if_pos d0)
  have F3 := Lib.hid (show okD d = true from decide_eq_true d0)
  have hc := compl_in hv
  have hq := quo_in hc d0
  have CC := Lib.hid (div_compl (v := v) d0)
  have R := rem_in (v := -1 - v) d0
  obtain ⟨R0, R1⟩ := R
  have P := Lib.hid (fun w => WideDiv_pos (-1 - v) d hc hd d0 (by omega) w)
  have D0 : -9223372036854775808 ≤ d := hd.1
  have D1 : d ≤ 9223372036854775807 := hd.2
  have dp : ¬ d ≤ 0 := by omega
  have s0 : hiW v < 0 := hi_neg_iff.2 s
  clear s
  go_enter Tryd.func31, Tryd.ntmps31
  go_wp2_with fail
  refine (complement_any v hv _).mono ?_
  rintro e w1 ⟨rfl, hb1⟩
  have hs1 : _ ≤ w1.heap.size := hb1.size
  try simp at hs1
  obtain ⟨hc1, hf1⟩ := old_kept hb1; have hz1 : w.heap.size + 1 < w1.heap.size := Nat.lt_of_lt_of_le (by first | omega | (simp; done) | (simp; omega)) hb1.size; have hz1a : w.heap.size < w1.heap.size := Nat.lt_of_lt_of_le (by first | omega | (simp; done) | (simp; omega)) hb1.size
  have k10 := hc1 (w.heap.size + 1) 0 (by first | assumption | omega | (simp; done) | (simp; omega)); have k11 := hc1 (w.heap.size + 1) 1 (by first | assumption | omega | (simp; done) | (simp; omega))
  go_wp2_with fail
  refine (P.out _).mono ?_
  rintro e w2 ⟨rfl, hb2⟩
  have hs2 : _ ≤ w2.heap.size := hb2.size
  try simp at hs2
  rw [F1.out, F2.out]
  obtain ⟨hc2, hf2⟩ := old_kept hb2; have hz2 : w.heap.size + 1 < w2.heap.size := Nat.lt_of_lt_of_le (by first | omega | (simp; done) | (simp; omega)) hb2.size; have hz2a : w.heap.size < w2.heap.size := Nat.lt_of_lt_of_le (by first | omega | (simp; done) | (simp; omega)) hb2.size
  have k20 := hc2 (w.heap.size + 1) 0 (by first | assumption | omega | (simp; done) | (simp; omega)); have k21 := hc2 (w.heap.size + 1) 1 (by first | assumption | omega | (simp; done) | (simp; omega))
  go_wp2_with fail
  refine (complement_any ((-1 - v) / d) hq _).mono ?_
  rintro e w3 ⟨rfl, hb3⟩
  have hs3 : _ ≤ w3.heap.size := hb3.size
  try simp at hs3
  obtain ⟨hc3, hf3⟩ := old_kept hb3; have hz3 : w.heap.size + 1 < w3.heap.size := Nat.lt_of_lt_of_le (by first | omega | (simp; done) | (simp; omega)) hb3.size; have hz3a : w.heap.size < w3.heap.size := Nat.lt_of_lt_of_le (by first | omega | (simp; done) | (simp; omega)) hb3.size
  have k30 := hc3 (w.heap.size + 1) 0 (by first | assumption | omega | (simp; done) | (simp; omega)); have k31 := hc3 (w.heap.size + 1) 1 (by first | assumption | omega | (simp; done) | (simp; omega))
  go_wp2
  exact bodyPost_ret (v := .tuple #[.agg #[.int .i64 (hiW (-1 - (-1 - v) / d)), .int .u64 (loW (-1 - (-1 - v) / d))], .int .i64 (d - 1 - (-1 - v) % d), .bool true]) (by simp [results, Tryd.results31, go_sem, k30, k31, k20, k21, k10, k11, hz2]) rfl ⟨by rw [E1.out, E2.out, E3.out, CC.out.1, CC.out.2], belB⟩
theorem WideDiv_any (v d : Int) (hv : InW v) (hd : In64 d) (w : World) : Calls Tryd.prog 31 #[.agg #[.int .i64 (hiW v), .int .u64 (loW v)], .int .i64 d] w fun e w' =>
    e = .returned (.tuple #[.agg #[.int .i64 (hiW (quoW v d)), .int .u64 (loW (quoW v d))], .int .i64 (remW v d), .bool (okD d)]) ∧ Below w.heap.size w w' := by
  by_cases d0 : 1 ≤ d
  · by_cases s : v < 0
    · exact WideDiv_neg v d hv hd d0 s w
    · exact WideDiv_pos v d hv hd d0 s w
  · exact WideDiv_none v d hd (by omega) w
end Go.Proofs.YtohidondlndkhaaDoor
namespace Go.Proofs.YtohidondlndkhaaDoor
open Go.ChangeShapes Go.WideShapes Go.ChangeAt Go.RowKit
set_option linter.unusedVariables false
set_option maxRecDepth 100000
set_option linter.unusedSimpArgs false
set_option maxHeartbeats 1000000

/-- A product, divided by a number: the number, and whether it is an int64. -/
def mdI (a b d : Int) : Int := if 1 ≤ d then intW (a * b / d) else 0
def mdB (a b d : Int) : Bool := if 1 ≤ d then okW (a * b / d) else false
end Go.Proofs.YtohidondlndkhaaDoor
