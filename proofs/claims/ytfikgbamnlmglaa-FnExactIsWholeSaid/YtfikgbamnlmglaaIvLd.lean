/- The laws of whole intervals, integers and quotients. Conditions: numbers are int64. -/
import Derived.Test.YtfikgbamnlmglaaIvK
import Derived.Test.YtfikgbamnlmglaaIvE
import Derived.Test.YtfikgbamnlmglaaIvN
import Derived.Outline
namespace Go.Proofs.Ytfikgbamnlmglaa
open Go.ChangeShapes Go.WideShapes Go.ChangeAt Go.RowKit
set_option linter.unusedVariables false
set_option maxRecDepth 100000
set_option linter.unusedSimpArgs false
set_option maxHeartbeats 1000000

theorem sWhole_any (w : World) : Calls Try.prog 55 #[] w fun e w' =>
    e = .returned (.agg #[.int .i64 (-1152921504606846976), .int .i64 1152921504606846976]) ∧ Below w.heap.size w w' := by
  go_enter Try.func55, Try.ntmps55
  go_wp2_with fail
  refine (l04Whole_any _).mono ?_
  rintro e w1 ⟨rfl, hb1⟩
  have hs1 : _ ≤ w1.heap.size := hb1.size
  try simp at hs1
  have o_qr10 : Own (w1) (w.heap.size) 0 (.int .i64 0) := (by repeat (first | (with_reducible assumption) | (with_reducible refine own_drew ?_) | (with_reducible refine own_drewN ?_) | (with_reducible refine own_kept (by assumption) ?_) | (refine ⟨?_, ?_⟩ <;> simp [go_sem]; done) | (with_reducible refine own_alloc ?_))); obtain ⟨qr10, f_qr10⟩ := o_qr10; have o_qr11 : Own (w1) (w.heap.size) 1 (.int .i64 0) := (by repeat (first | (with_reducible assumption) | (with_reducible refine own_drew ?_) | (with_reducible refine own_drewN ?_) | (with_reducible refine own_kept (by assumption) ?_) | (refine ⟨?_, ?_⟩ <;> simp [go_sem]; done) | (with_reducible refine own_alloc ?_))); obtain ⟨qr11, f_qr11⟩ := o_qr11
  go_wp2
  exact bodyPost_ret (v := .agg #[.int .i64 (-1152921504606846976), .int .i64 1152921504606846976]) (by simp [results, Try.results55, go_sem, qr10, qr11]) rfl ⟨rfl, (by repeat (first | exact Below.refl _ _ | refine Below.drew ?_ | refine below_dn ?_ _ | refine Below.setCell ?_ (by first | omega | (simp; done) | (simp; omega)) _ | refine Below.alloc ?_ (by first | omega | (simp; done) | (simp; omega)) _ | refine Below.trans ?_ (Below.mono (by assumption) (by first | omega | (simp; done) | (simp; omega)))))⟩
theorem law_Whole (w : World) : Calls Try.prog 12 #[] w fun e w' =>
    e = .returned (.bool true) ∧ Below w.heap.size w w' := by
  go_enter Try.func12, Try.ntmps12
  go_wp2_with fail
  refine (sWhole_any _).mono ?_
  rintro e w1 ⟨rfl, hb1⟩
  have hs1 : _ ≤ w1.heap.size := hb1.size
  try simp at hs1
  go_wp2_with fail
  refine (Whole_any _).mono ?_
  rintro e w2 ⟨rfl, hb2⟩
  have hs2 : _ ≤ w2.heap.size := hb2.size
  try simp at hs2
  have o_g20 : Own (w2) (w1.heap.size) 0 (.int .i64 (-1152921504606846976)) := (by repeat (first | (with_reducible assumption) | (with_reducible refine own_drew ?_) | (with_reducible refine own_drewN ?_) | (with_reducible refine own_kept (by assumption) ?_) | (refine ⟨?_, ?_⟩ <;> simp [go_sem]; done) | (with_reducible refine own_alloc ?_))); obtain ⟨g20, f_g20⟩ := o_g20; have o_g21 : Own (w2) (w1.heap.size) 1 (.int .i64 1152921504606846976) := (by repeat (first | (with_reducible assumption) | (with_reducible refine own_drew ?_) | (with_reducible refine own_drewN ?_) | (with_reducible refine own_kept (by assumption) ?_) | (refine ⟨?_, ?_⟩ <;> simp [go_sem]; done) | (with_reducible refine own_alloc ?_))); obtain ⟨g21, f_g21⟩ := o_g21
  have lg2 : w1.heap.size < w2.heap.size := World.block_lt_of_cell? _ _ g20
  have ng2 : ¬ w1.heap.size = w2.heap.size := Nat.ne_of_lt lg2
  have mg2 : ¬ w2.heap.size = w1.heap.size := Nat.ne_of_gt lg2
  go_wp2_with fail
  refine (eqInterval_same _ _ _).mono ?_
  rintro e w3 ⟨rfl, hb3⟩
  have hs3 : _ ≤ w3.heap.size := hb3.size
  try simp at hs3
  go_wp2
  go_ret
  exact ⟨rfl, (by repeat (first | exact Below.refl _ _ | refine Below.drew ?_ | refine below_dn ?_ _ | refine Below.setCell ?_ (by first | omega | (simp; done) | (simp; omega)) _ | refine Below.alloc ?_ (by first | omega | (simp; done) | (simp; omega)) _ | refine Below.trans ?_ (Below.mono (by assumption) (by first | omega | (simp; done) | (simp; omega)))))⟩
theorem law_Integer (a : Int) (ha : In64 a) (w : World) : Calls Try.prog 15 #[.int .i64 a] w fun e w' =>
    e = .returned (.bool true) ∧ Below w.heap.size w w' := by
  go_enter Try.func15, Try.ntmps15
  go_wp2_with fail
  refine (sInteger_any a ha _).mono ?_
  rintro e w1 ⟨rfl, hb1⟩
  have hs1 : _ ≤ w1.heap.size := hb1.size
  try simp at hs1
  go_wp2_with fail
  refine (Integer_any a ha _).mono ?_
  rintro e w2 ⟨rfl, hb2⟩
  have hs2 : _ ≤ w2.heap.size := hb2.size
  try simp at hs2
  have o_g20 : Own (w2) (w1.heap.size) 0 (.int .i64 (intI a).1) := (by repeat (first | (with_reducible assumption) | (with_reducible refine own_drew ?_) | (with_reducible refine own_drewN ?_) | (with_reducible refine own_kept (by assumption) ?_) | (refine ⟨?_, ?_⟩ <;> simp [go_sem]; done) | (with_reducible refine own_alloc ?_))); obtain ⟨g20, f_g20⟩ := o_g20; have o_g21 : Own (w2) (w1.heap.size) 1 (.int .i64 (intI a).2) := (by repeat (first | (with_reducible assumption) | (with_reducible refine own_drew ?_) | (with_reducible refine own_drewN ?_) | (with_reducible refine own_kept (by assumption) ?_) | (refine ⟨?_, ?_⟩ <;> simp [go_sem]; done) | (with_reducible refine own_alloc ?_))); obtain ⟨g21, f_g21⟩ := o_g21
  have lg2 : w1.heap.size < w2.heap.size := World.block_lt_of_cell? _ _ g20
  have ng2 : ¬ w1.heap.size = w2.heap.size := Nat.ne_of_lt lg2
  have mg2 : ¬ w2.heap.size = w1.heap.size := Nat.ne_of_gt lg2
  go_wp2_with fail
  refine (eqInterval_same _ _ _).mono ?_
  rintro e w3 ⟨rfl, hb3⟩
  have hs3 : _ ≤ w3.heap.size := hb3.size
  try simp at hs3
  go_wp2
  go_ret
  exact ⟨rfl, (by repeat (first | exact Below.refl _ _ | refine Below.drew ?_ | refine below_dn ?_ _ | refine Below.setCell ?_ (by first | omega | (simp; done) | (simp; omega)) _ | refine Below.alloc ?_ (by first | omega | (simp; done) | (simp; omega)) _ | refine Below.trans ?_ (Below.mono (by assumption) (by first | omega | (simp; done) | (simp; omega)))))⟩
theorem law_Quotient (a : Int) (b : Int) (ha : In64 a) (hb : In64 b) (w : World) : Calls Try.prog 16 #[.int .i64 a, .int .i64 b] w fun e w' =>
    e = .returned (.bool true) ∧ Below w.heap.size w w' := by
  go_enter Try.func16, Try.ntmps16
  go_wp2_with fail
  refine (sQuotient_any a b ha hb _).mono ?_
  rintro e w1 ⟨rfl, hb1⟩
  have hs1 : _ ≤ w1.heap.size := hb1.size
  try simp at hs1
  go_wp2_with fail
  refine (Quotient_any a b ha hb _).mono ?_
  rintro e w2 ⟨rfl, hb2⟩
  have hs2 : _ ≤ w2.heap.size := hb2.size
  try simp at hs2
  have o_g20 : Own (w2) (w1.heap.size) 0 (.int .i64 (quoI a b).1) := (by repeat (first | (with_reducible assumption) | (with_reducible refine own_drew ?_) | (with_reducible refine own_drewN ?_) | (with_reducible refine own_kept (by assumption) ?_) | (refine ⟨?_, ?_⟩ <;> simp [go_sem]; done) | (with_reducible refine own_alloc ?_))); obtain ⟨g20, f_g20⟩ := o_g20; have o_g21 : Own (w2) (w1.heap.size) 1 (.int .i64 (quoI a b).2) := (by repeat (first | (with_reducible assumption) | (with_reducible refine own_drew ?_) | (with_reducible refine own_drewN ?_) | (with_reducible refine own_kept (by assumption) ?_) | (refine ⟨?_, ?_⟩ <;> simp [go_sem]; done) | (with_reducible refine own_alloc ?_))); obtain ⟨g21, f_g21⟩ := o_g21
  have lg2 : w1.heap.size < w2.heap.size := World.block_lt_of_cell? _ _ g20
  have ng2 : ¬ w1.heap.size = w2.heap.size := Nat.ne_of_lt lg2
  have mg2 : ¬ w2.heap.size = w1.heap.size := Nat.ne_of_gt lg2
  go_wp2_with fail
  refine (eqInterval_same _ _ _).mono ?_
  rintro e w3 ⟨rfl, hb3⟩
  have hs3 : _ ≤ w3.heap.size := hb3.size
  try simp at hs3
  go_wp2
  go_ret
  exact ⟨rfl, (by repeat (first | exact Below.refl _ _ | refine Below.drew ?_ | refine below_dn ?_ _ | refine Below.setCell ?_ (by first | omega | (simp; done) | (simp; omega)) _ | refine Below.alloc ?_ (by first | omega | (simp; done) | (simp; omega)) _ | refine Below.trans ?_ (Below.mono (by assumption) (by first | omega | (simp; done) | (simp; omega)))))⟩
theorem law_ValidInterval (x : Iv) (w : World) : Calls Try.prog 13 #[.agg #[.int .i64 x.1, .int .i64 x.2]] w fun e w' =>
    e = .returned (.bool true) ∧ Below w.heap.size w w' := by
  go_enter Try.func13, Try.ntmps13
  go_wp2_with fail
  refine (toInterval_any x _).mono ?_
  rintro e w1 ⟨rfl, hb1⟩
  have hs1 : _ ≤ w1.heap.size := hb1.size
  try simp at hs1
  go_wp2_with fail
  refine (sValidInterval_any x _).mono ?_
  rintro e w2 ⟨rfl, hb2⟩
  have hs2 : _ ≤ w2.heap.size := hb2.size
  try simp at hs2
  have o_p20 : Own (w2) (w.heap.size) 0 (.int .i64 x.1) := (by repeat (first | (with_reducible assumption) | (with_reducible refine own_drew ?_) | (with_reducible refine own_drewN ?_) | (with_reducible refine own_kept (by assumption) ?_) | (refine ⟨?_, ?_⟩ <;> simp [go_sem]; done) | (with_reducible refine own_alloc ?_))); obtain ⟨p20, f_p20⟩ := o_p20; have o_p21 : Own (w2) (w.heap.size) 1 (.int .i64 x.2) := (by repeat (first | (with_reducible assumption) | (with_reducible refine own_drew ?_) | (with_reducible refine own_drewN ?_) | (with_reducible refine own_kept (by assumption) ?_) | (refine ⟨?_, ?_⟩ <;> simp [go_sem]; done) | (with_reducible refine own_alloc ?_))); obtain ⟨p21, f_p21⟩ := o_p21
  have lp2 : w.heap.size < w2.heap.size := World.block_lt_of_cell? _ _ p20
  have np2 : ¬ w.heap.size = w2.heap.size := Nat.ne_of_lt lp2
  have mp2 : ¬ w2.heap.size = w.heap.size := Nat.ne_of_gt lp2
  go_wp2_with fail
  refine (toInterval_any x _).mono ?_
  rintro e w3 ⟨rfl, hb3⟩
  have hs3 : _ ≤ w3.heap.size := hb3.size
  try simp at hs3
  go_wp2_with fail
  refine (ValidInterval_any x _).mono ?_
  rintro e w4 ⟨rfl, hb4⟩
  have hs4 : _ ≤ w4.heap.size := hb4.size
  try simp at hs4
  go_wp2
  go_ret
  exact ⟨rfl, (by repeat (first | exact Below.refl _ _ | refine Below.drew ?_ | refine below_dn ?_ _ | refine Below.setCell ?_ (by first | omega | (simp; done) | (simp; omega)) _ | refine Below.alloc ?_ (by first | omega | (simp; done) | (simp; omega)) _ | refine Below.trans ?_ (Below.mono (by assumption) (by first | omega | (simp; done) | (simp; omega)))))⟩
theorem law_IsWhole (x : Iv) (w : World) : Calls Try.prog 14 #[.agg #[.int .i64 x.1, .int .i64 x.2]] w fun e w' =>
    e = .returned (.bool true) ∧ Below w.heap.size w w' := by
  go_enter Try.func14, Try.ntmps14
  go_wp2_with fail
  refine (toInterval_any x _).mono ?_
  rintro e w1 ⟨rfl, hb1⟩
  have hs1 : _ ≤ w1.heap.size := hb1.size
  try simp at hs1
  go_wp2_with fail
  refine (sIsWhole_any x _).mono ?_
  rintro e w2 ⟨rfl, hb2⟩
  have hs2 : _ ≤ w2.heap.size := hb2.size
  try simp at hs2
  have o_p20 : Own (w2) (w.heap.size) 0 (.int .i64 x.1) := (by repeat (first | (with_reducible assumption) | (with_reducible refine own_drew ?_) | (with_reducible refine own_drewN ?_) | (with_reducible refine own_kept (by assumption) ?_) | (refine ⟨?_, ?_⟩ <;> simp [go_sem]; done) | (with_reducible refine own_alloc ?_))); obtain ⟨p20, f_p20⟩ := o_p20; have o_p21 : Own (w2) (w.heap.size) 1 (.int .i64 x.2) := (by repeat (first | (with_reducible assumption) | (with_reducible refine own_drew ?_) | (with_reducible refine own_drewN ?_) | (with_reducible refine own_kept (by assumption) ?_) | (refine ⟨?_, ?_⟩ <;> simp [go_sem]; done) | (with_reducible refine own_alloc ?_))); obtain ⟨p21, f_p21⟩ := o_p21
  have lp2 : w.heap.size < w2.heap.size := World.block_lt_of_cell? _ _ p20
  have np2 : ¬ w.heap.size = w2.heap.size := Nat.ne_of_lt lp2
  have mp2 : ¬ w2.heap.size = w.heap.size := Nat.ne_of_gt lp2
  go_wp2_with fail
  refine (toInterval_any x _).mono ?_
  rintro e w3 ⟨rfl, hb3⟩
  have hs3 : _ ≤ w3.heap.size := hb3.size
  try simp at hs3
  go_wp2_with fail
  refine (IsWhole_any x _).mono ?_
  rintro e w4 ⟨rfl, hb4⟩
  have hs4 : _ ≤ w4.heap.size := hb4.size
  try simp at hs4
  go_wp2
  go_ret
  exact ⟨rfl, (by repeat (first | exact Below.refl _ _ | refine Below.drew ?_ | refine below_dn ?_ _ | refine Below.setCell ?_ (by first | omega | (simp; done) | (simp; omega)) _ | refine Below.alloc ?_ (by first | omega | (simp; done) | (simp; omega)) _ | refine Below.trans ?_ (Below.mono (by assumption) (by first | omega | (simp; done) | (simp; omega)))))⟩
end Go.Proofs.Ytfikgbamnlmglaa
