/- The laws of the series of sines and cosines. Conditions: numbers are int64; the program's two intervals are laid. -/
import Derived.Test.YtpjhoelfhmbpdaaDoorIvK
import Derived.Test.YtpjhoelfhmbpdaaDoorSeB
import Derived.Outline
namespace Go.Proofs.YtpjhoelfhmbpdaaDoor
open Go.ChangeShapes Go.WideShapes Go.ChangeAt Go.RowKit
set_option linter.unusedVariables false
set_option maxRecDepth 100000
set_option linter.unusedSimpArgs false
set_option maxHeartbeats 1000000
theorem law_SinSeries (x : Iv) (hx : Ok x) (w : World) (hg : Glo w) : Calls Tryd.prog 3 #[.agg #[.int .i64 x.1, .int .i64 x.2]] w fun e w' =>
    e = .returned (.bool true) ∧ Below w.heap.size w w' := by
  have SP := Lib.hid (fun w => sSinSeries_any x w)
  have IM := Lib.hid (fun w hg => SinSeries_any x hx w hg)
  generalize sinS x = r at *
  go_enter Tryd.func3, Tryd.ntmps3
  go_wp2_with fail
  refine (toInterval_any x _).mono ?_
  rintro e w1 ⟨rfl, hb1⟩
  have hs1 : _ ≤ w1.heap.size := hb1.size
  try simp at hs1
  go_wp2_with fail
  refine (SP.out _).mono ?_
  rintro e w2 ⟨rfl, hb2⟩
  have hs2 : _ ≤ w2.heap.size := hb2.size
  try simp at hs2
  have o_p20 : Own (w2) (w.heap.size) 0 (.int .i64 x.1) := (by repeat (first | (with_reducible assumption) | (with_reducible refine own_drew ?_) | (with_reducible refine own_drewN ?_) | (with_reducible refine own_kept (by assumption) ?_) | (refine ⟨?_, ?_⟩ <;> simp [go_sem]; done) | (with_reducible refine own_alloc ?_))); obtain ⟨p20, f_p20⟩ := o_p20; have o_p21 : Own (w2) (w.heap.size) 1 (.int .i64 x.2) := (by repeat (first | (with_reducible assumption) | (with_reducible refine own_drew ?_) | (with_reducible refine own_drewN ?_) | (with_reducible refine own_kept (by assumption) ?_) | (refine ⟨?_, ?_⟩ <;> simp [go_sem]; done) | (with_reducible refine own_alloc ?_))); obtain ⟨p21, f_p21⟩ := o_p21
  have lp2 : w.heap.size < w2.heap.size := World.block_lt_of_cell? _ _ p20
  have np2 : ¬ w.heap.size = w2.heap.size := Nat.ne_of_lt lp2
  have mp2 : ¬ w2.heap.size = w.heap.size := Nat.ne_of_gt lp2
  go_wp2_with fail
  refine (toInterval_any x _).mono ?_
  rintro e w3 ⟨rfl, hb3⟩
  have hs3 : _ ≤ w3.heap.size := hb3.size
  try simp at hs3
  go_wp2_with fail
  refine (IM.out _ (by repeat (first | (with_reducible assumption) | (with_reducible refine Glo.drew ?_) | (with_reducible refine Glo.kept ?_ (by assumption)) | (with_reducible refine Glo.alloc ?_ _)))).mono ?_
  rintro e w4 ⟨rfl, hb4⟩
  have hs4 : _ ≤ w4.heap.size := hb4.size
  try simp at hs4
  have o_g40 : Own (w4) (w2.heap.size) 0 (.int .i64 r.1) := (by repeat (first | (with_reducible assumption) | (with_reducible refine own_drew ?_) | (with_reducible refine own_drewN ?_) | (with_reducible refine own_kept (by assumption) ?_) | (refine ⟨?_, ?_⟩ <;> simp [go_sem]; done) | (with_reducible refine own_alloc ?_))); obtain ⟨g40, f_g40⟩ := o_g40; have o_g41 : Own (w4) (w2.heap.size) 1 (.int .i64 r.2) := (by repeat (first | (with_reducible assumption) | (with_reducible refine own_drew ?_) | (with_reducible refine own_drewN ?_) | (with_reducible refine own_kept (by assumption) ?_) | (refine ⟨?_, ?_⟩ <;> simp [go_sem]; done) | (with_reducible refine own_alloc ?_))); obtain ⟨g41, f_g41⟩ := o_g41
  have lg4 : w2.heap.size < w4.heap.size := World.block_lt_of_cell? _ _ g40
  have ng4 : ¬ w2.heap.size = w4.heap.size := Nat.ne_of_lt lg4
  have mg4 : ¬ w4.heap.size = w2.heap.size := Nat.ne_of_gt lg4
  go_wp2_with fail
  refine (eqInterval_same _ _ _).mono ?_
  rintro e w5 ⟨rfl, hb5⟩
  have hs5 : _ ≤ w5.heap.size := hb5.size
  try simp at hs5
  go_wp2
  go_ret
  exact ⟨rfl, (by repeat (first | exact Below.refl _ _ | refine Below.drew ?_ | refine below_dn ?_ _ | refine Below.setCell ?_ (by first | omega | (simp; done) | (simp; omega)) _ | refine Below.alloc ?_ (by first | omega | (simp; done) | (simp; omega)) _ | refine Below.trans ?_ (Below.mono (by assumption) (by first | omega | (simp; done) | (simp; omega)))))⟩
theorem law_CosSeries (x : Iv) (hx : Ok x) (w : World) (hg : Glo w) : Calls Tryd.prog 4 #[.agg #[.int .i64 x.1, .int .i64 x.2]] w fun e w' =>
    e = .returned (.bool true) ∧ Below w.heap.size w w' := by
  have SP := Lib.hid (fun w => sCosSeries_any x w)
  have IM := Lib.hid (fun w hg => CosSeries_any x hx w hg)
  generalize cosS x = r at *
  go_enter Tryd.func4, Tryd.ntmps4
  go_wp2_with fail
  refine (toInterval_any x _).mono ?_
  rintro e w1 ⟨rfl, hb1⟩
  have hs1 : _ ≤ w1.heap.size := hb1.size
  try simp at hs1
  go_wp2_with fail
  refine (SP.out _).mono ?_
  rintro e w2 ⟨rfl, hb2⟩
  have hs2 : _ ≤ w2.heap.size := hb2.size
  try simp at hs2
  have o_p20 : Own (w2) (w.heap.size) 0 (.int .i64 x.1) := (by repeat (first | (with_reducible assumption) | (with_reducible refine own_drew ?_) | (with_reducible refine own_drewN ?_) | (with_reducible refine own_kept (by assumption) ?_) | (refine ⟨?_, ?_⟩ <;> simp [go_sem]; done) | (with_reducible refine own_alloc ?_))); obtain ⟨p20, f_p20⟩ := o_p20; have o_p21 : Own (w2) (w.heap.size) 1 (.int .i64 x.2) := (by repeat (first | (with_reducible assumption) | (with_reducible refine own_drew ?_) | (with_reducible refine own_drewN ?_) | (with_reducible refine own_kept (by assumption) ?_) | (refine ⟨?_, ?_⟩ <;> simp [go_sem]; done) | (with_reducible refine own_alloc ?_))); obtain ⟨p21, f_p21⟩ := o_p21
  have lp2 : w.heap.size < w2.heap.size := World.block_lt_of_cell? _ _ p20
  have np2 : ¬ w.heap.size = w2.heap.size := Nat.ne_of_lt lp2
  have mp2 : ¬ w2.heap.size = w.heap.size := Nat.ne_of_gt lp2
  go_wp2_with fail
  refine (toInterval_any x _).mono ?_
  rintro e w3 ⟨rfl, hb3⟩
  have hs3 : _ ≤ w3.heap.size := hb3.size
  try simp at hs3
  go_wp2_with fail
  refine (IM.out _ (by repeat (first | (with_reducible assumption) | (with_reducible refine Glo.drew ?_) | (with_reducible refine Glo.kept ?_ (by assumption)) | (with_reducible refine Glo.alloc ?_ _)))).mono ?_
  rintro e w4 ⟨rfl, hb4⟩
  have hs4 : _ ≤ w4.heap.size := hb4.size
  try simp at hs4
  have o_g40 : Own (w4) (w2.heap.size) 0 (.int .i64 r.1) := (by repeat (first | (with_reducible assumption) | (with_reducible refine own_drew ?_) | (with_reducible refine own_drewN ?_) | (with_reducible refine own_kept (by assumption) ?_) | (refine ⟨?_, ?_⟩ <;> simp [go_sem]; done) | (with_reducible refine own_alloc ?_))); obtain ⟨g40, f_g40⟩ := o_g40; have o_g41 : Own (w4) (w2.heap.size) 1 (.int .i64 r.2) := (by repeat (first | (with_reducible assumption) | (with_reducible refine own_drew ?_) | (with_reducible refine own_drewN ?_) | (with_reducible refine own_kept (by assumption) ?_) | (refine ⟨?_, ?_⟩ <;> simp [go_sem]; done) | (with_reducible refine own_alloc ?_))); obtain ⟨g41, f_g41⟩ := o_g41
  have lg4 : w2.heap.size < w4.heap.size := World.block_lt_of_cell? _ _ g40
  have ng4 : ¬ w2.heap.size = w4.heap.size := Nat.ne_of_lt lg4
  have mg4 : ¬ w4.heap.size = w2.heap.size := Nat.ne_of_gt lg4
  go_wp2_with fail
  refine (eqInterval_same _ _ _).mono ?_
  rintro e w5 ⟨rfl, hb5⟩
  have hs5 : _ ≤ w5.heap.size := hb5.size
  try simp at hs5
  go_wp2
  go_ret
  exact ⟨rfl, (by repeat (first | exact Below.refl _ _ | refine Below.drew ?_ | refine below_dn ?_ _ | refine Below.setCell ?_ (by first | omega | (simp; done) | (simp; omega)) _ | refine Below.alloc ?_ (by first | omega | (simp; done) | (simp; omega)) _ | refine Below.trans ?_ (Below.mono (by assumption) (by first | omega | (simp; done) | (simp; omega)))))⟩
end Go.Proofs.YtpjhoelfhmbpdaaDoor
