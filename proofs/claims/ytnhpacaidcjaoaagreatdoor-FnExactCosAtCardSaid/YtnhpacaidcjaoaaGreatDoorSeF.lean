/- Contracts of the sine and the cosine of a number in the program. Conditions: numbers are int64; the program's two intervals are laid. -/
import Derived.Test.YtnhpacaidcjaoaaGreatDoorSeB
import Derived.Test.YtnhpacaidcjaoaaGreatDoorTrA
import Derived.Test.YtnhpacaidcjaoaaGreatDoorTrD
import Derived.Test.YtnhpacaidcjaoaaGreatDoorNumU
import Derived.Test.YtnhpacaidcjaoaaGreatDoorIvU
import Derived.Outline
namespace Go.Proofs.YtnhpacaidcjaoaaGreatDoor
open Go.ChangeShapes Go.WideShapes Go.ChangeAt Go.RowKit
set_option linter.unusedVariables false
set_option maxRecDepth 100000
set_option linter.unusedSimpArgs false
set_option maxHeartbeats 1000000
theorem opposite_Sin (w : World) : Calls Tryz.prog 128 #[.func (Fn.func 126) #[] #[]] w fun e w' =>
    e = .returned (.func (Fn.func 161) #[] #[.pointer (some ⟨w.heap.size, 0, none⟩)]) ∧ w.alloc (.cells #[.func (Fn.func 126) #[] #[]] 67) = w' := by
  have hmf : ∀ (fn : Fn) (first cap : Array Value) (w : World), (Instr.makeFunc fn first cap).run Tryz.prog w = .ok (.func fn first cap) w := fun _ _ _ _ => rfl
  go_enter Tryz.func128, Tryz.ntmps128
  go_wp2
  go_ret
  exact ⟨rfl, rfl⟩
theorem oppLit_Sin (x : Iv) (hx : Ok x) (b : Nat) (w : World) (hg : Glo w) (hc : w.cell? ⟨b, 0, none⟩ = some (.func (Fn.func 126) #[] #[])) : Calls Tryz.prog 161 #[.agg #[.int .i64 x.1, .int .i64 x.2], .pointer (some ⟨b, 0, none⟩)] w fun e w' =>
    e = .returned (.agg #[.int .i64 (negI (sinS x)).1, .int .i64 (negI (sinS x)).2]) ∧ Below w.heap.size w w' := by
  have lb : b < w.heap.size := World.block_lt_of_cell? _ _ hc
  have S := Lib.hid (fun w hg => SinSeries_any x hx w hg)
  have N := Lib.hid (fun w => NegI_any (sinS x) w)
  obtain ⟨g0, g1, g2, g3⟩ := id hg
  generalize negI (sinS x) = z at *
  generalize sinS x = s at *
  go_enter Tryz.func161, Tryz.ntmps161
  go_wp2_with fail
  refine (S.out _ ((hg.alloc _).alloc _)).mono ?_
  rintro e w1 ⟨rfl, hb1⟩
  have hs1 : _ ≤ w1.heap.size := hb1.size
  try simp at hs1
  have o_r10 : Own (w1) (w.heap.size + 1) 0 (.int .i64 0) := (by repeat (first | (with_reducible assumption) | (with_reducible refine own_drew ?_) | (with_reducible refine own_drewN ?_) | (with_reducible refine own_kept (by assumption) ?_) | (refine ⟨?_, ?_⟩ <;> simp [go_sem]; done) | (with_reducible refine own_alloc ?_))); have r10 := o_r10.1; have f_r10 := o_r10.2; have o_r11 : Own (w1) (w.heap.size + 1) 1 (.int .i64 0) := (by repeat (first | (with_reducible assumption) | (with_reducible refine own_drew ?_) | (with_reducible refine own_drewN ?_) | (with_reducible refine own_kept (by assumption) ?_) | (refine ⟨?_, ?_⟩ <;> simp [go_sem]; done) | (with_reducible refine own_alloc ?_))); have r11 := o_r11.1; have f_r11 := o_r11.2
  go_wp2_with fail
  refine (N.out _).mono ?_
  rintro e w2 ⟨rfl, hb2⟩
  have hs2 : _ ≤ w2.heap.size := hb2.size
  try simp at hs2
  have o_r20 : Own (w2) (w.heap.size + 1) 0 (.int .i64 0) := (by repeat (first | (with_reducible assumption) | (with_reducible refine own_drew ?_) | (with_reducible refine own_drewN ?_) | (with_reducible refine own_kept (by assumption) ?_) | (refine ⟨?_, ?_⟩ <;> simp [go_sem]; done) | (with_reducible refine own_alloc ?_))); obtain ⟨r20, f_r20⟩ := o_r20; have o_r21 : Own (w2) (w.heap.size + 1) 1 (.int .i64 0) := (by repeat (first | (with_reducible assumption) | (with_reducible refine own_drew ?_) | (with_reducible refine own_drewN ?_) | (with_reducible refine own_kept (by assumption) ?_) | (refine ⟨?_, ?_⟩ <;> simp [go_sem]; done) | (with_reducible refine own_alloc ?_))); obtain ⟨r21, f_r21⟩ := o_r21
  go_wp2
  exact bodyPost_ret (v := .agg #[.int .i64 (z).1, .int .i64 (z).2]) (by simp [results, Tryz.results161, go_sem, r20, r21]) rfl ⟨rfl, (by repeat (first | exact Below.refl _ _ | refine Below.drew ?_ | refine below_dn ?_ _ | refine Below.setCell ?_ (by first | omega | (simp; done) | (simp; omega)) _ | refine Below.alloc ?_ (by first | omega | (simp; done) | (simp; omega)) _ | refine Below.trans ?_ (Below.mono (by assumption) (by first | omega | (simp; done) | (simp; omega)))))⟩
theorem opposite_Cos (w : World) : Calls Tryz.prog 128 #[.func (Fn.func 127) #[] #[]] w fun e w' =>
    e = .returned (.func (Fn.func 161) #[] #[.pointer (some ⟨w.heap.size, 0, none⟩)]) ∧ w.alloc (.cells #[.func (Fn.func 127) #[] #[]] 67) = w' := by
  have hmf : ∀ (fn : Fn) (first cap : Array Value) (w : World), (Instr.makeFunc fn first cap).run Tryz.prog w = .ok (.func fn first cap) w := fun _ _ _ _ => rfl
  go_enter Tryz.func128, Tryz.ntmps128
  go_wp2
  go_ret
  exact ⟨rfl, rfl⟩
theorem oppLit_Cos (x : Iv) (hx : Ok x) (b : Nat) (w : World) (hg : Glo w) (hc : w.cell? ⟨b, 0, none⟩ = some (.func (Fn.func 127) #[] #[])) : Calls Tryz.prog 161 #[.agg #[.int .i64 x.1, .int .i64 x.2], .pointer (some ⟨b, 0, none⟩)] w fun e w' =>
    e = .returned (.agg #[.int .i64 (negI (cosS x)).1, .int .i64 (negI (cosS x)).2]) ∧ Below w.heap.size w w' := by
  have lb : b < w.heap.size := World.block_lt_of_cell? _ _ hc
  have S := Lib.hid (fun w hg => CosSeries_any x hx w hg)
  have N := Lib.hid (fun w => NegI_any (cosS x) w)
  obtain ⟨g0, g1, g2, g3⟩ := id hg
  generalize negI (cosS x) = z at *
  generalize cosS x = s at *
  go_enter Tryz.func161, Tryz.ntmps161
  go_wp2_with fail
  refine (S.out _ ((hg.alloc _).alloc _)).mono ?_
  rintro e w1 ⟨rfl, hb1⟩
  have hs1 : _ ≤ w1.heap.size := hb1.size
  try simp at hs1
  have o_r10 : Own (w1) (w.heap.size + 1) 0 (.int .i64 0) := (by repeat (first | (with_reducible assumption) | (with_reducible refine own_drew ?_) | (with_reducible refine own_drewN ?_) | (with_reducible refine own_kept (by assumption) ?_) | (refine ⟨?_, ?_⟩ <;> simp [go_sem]; done) | (with_reducible refine own_alloc ?_))); have r10 := o_r10.1; have f_r10 := o_r10.2; have o_r11 : Own (w1) (w.heap.size + 1) 1 (.int .i64 0) := (by repeat (first | (with_reducible assumption) | (with_reducible refine own_drew ?_) | (with_reducible refine own_drewN ?_) | (with_reducible refine own_kept (by assumption) ?_) | (refine ⟨?_, ?_⟩ <;> simp [go_sem]; done) | (with_reducible refine own_alloc ?_))); have r11 := o_r11.1; have f_r11 := o_r11.2
  go_wp2_with fail
  refine (N.out _).mono ?_
  rintro e w2 ⟨rfl, hb2⟩
  have hs2 : _ ≤ w2.heap.size := hb2.size
  try simp at hs2
  have o_r20 : Own (w2) (w.heap.size + 1) 0 (.int .i64 0) := (by repeat (first | (with_reducible assumption) | (with_reducible refine own_drew ?_) | (with_reducible refine own_drewN ?_) | (with_reducible refine own_kept (by assumption) ?_) | (refine ⟨?_, ?_⟩ <;> simp [go_sem]; done) | (with_reducible refine own_alloc ?_))); obtain ⟨r20, f_r20⟩ := o_r20; have o_r21 : Own (w2) (w.heap.size + 1) 1 (.int .i64 0) := (by repeat (first | (with_reducible assumption) | (with_reducible refine own_drew ?_) | (with_reducible refine own_drewN ?_) | (with_reducible refine own_kept (by assumption) ?_) | (refine ⟨?_, ?_⟩ <;> simp [go_sem]; done) | (with_reducible refine own_alloc ?_))); obtain ⟨r21, f_r21⟩ := o_r21
  go_wp2
  exact bodyPost_ret (v := .agg #[.int .i64 (z).1, .int .i64 (z).2]) (by simp [results, Tryz.results161, go_sem, r20, r21]) rfl ⟨rfl, (by repeat (first | exact Below.refl _ _ | refine Below.drew ?_ | refine below_dn ?_ _ | refine Below.setCell ?_ (by first | omega | (simp; done) | (simp; omega)) _ | refine Below.alloc ?_ (by first | omega | (simp; done) | (simp; omega)) _ | refine Below.trans ?_ (Below.mono (by assumption) (by first | omega | (simp; done) | (simp; omega)))))⟩
theorem single_any (n : Int) (w : World) : Calls Tryz.prog 47 #[.int .i64 n] w fun e w' =>
    e = .returned (.agg #[.int .i64 n, .int .i64 n]) ∧ Below w.heap.size w w' := by
  go_enter Tryz.func47, Tryz.ntmps47
  go_wp2
  exact bodyPost_ret (v := .agg #[.int .i64 n, .int .i64 n]) (by simp [results, Tryz.results47, go_sem]) rfl ⟨rfl, (by repeat (first | exact Below.refl _ _ | refine Below.drew ?_ | refine Below.setCell ?_ (by first | omega | (simp; done) | (simp; omega)) _ | refine Below.alloc ?_ (by first | omega | (simp; done) | (simp; omega)) _ | refine Below.trans ?_ (Below.mono (by assumption) (by first | omega | (simp; done) | (simp; omega)))))⟩
theorem atQuarter0 (f0 f1 f2 f3 : Value) (k : Int) (h : k % 4 = 0) (w : World) : Calls Tryz.prog 125 #[.agg #[f0, f1, f2, f3], .int .i64 k] w fun e w' =>
    e = .returned (f0) ∧ Below w.heap.size w w' := by
  have A : bits .and .i64 k 3 = 0 := by rw [and_mask2]; exact h
  go_enter Tryz.func125, Tryz.ntmps125
  go_wp2
  go_ret
  exact ⟨rfl, (by repeat (first | exact Below.refl _ _ | refine Below.drew ?_ | refine below_dn ?_ _ | refine Below.setCell ?_ (by first | omega | (simp; done) | (simp; omega)) _ | refine Below.alloc ?_ (by first | omega | (simp; done) | (simp; omega)) _ | refine Below.trans ?_ (Below.mono (by assumption) (by first | omega | (simp; done) | (simp; omega)))))⟩
theorem atQuarter1 (f0 f1 f2 f3 : Value) (k : Int) (h : k % 4 = 1) (w : World) : Calls Tryz.prog 125 #[.agg #[f0, f1, f2, f3], .int .i64 k] w fun e w' =>
    e = .returned (f1) ∧ Below w.heap.size w w' := by
  have A : bits .and .i64 k 3 = 1 := by rw [and_mask2]; exact h
  go_enter Tryz.func125, Tryz.ntmps125
  go_wp2
  go_ret
  exact ⟨rfl, (by repeat (first | exact Below.refl _ _ | refine Below.drew ?_ | refine below_dn ?_ _ | refine Below.setCell ?_ (by first | omega | (simp; done) | (simp; omega)) _ | refine Below.alloc ?_ (by first | omega | (simp; done) | (simp; omega)) _ | refine Below.trans ?_ (Below.mono (by assumption) (by first | omega | (simp; done) | (simp; omega)))))⟩
theorem atQuarter2 (f0 f1 f2 f3 : Value) (k : Int) (h : k % 4 = 2) (w : World) : Calls Tryz.prog 125 #[.agg #[f0, f1, f2, f3], .int .i64 k] w fun e w' =>
    e = .returned (f2) ∧ Below w.heap.size w w' := by
  have A : bits .and .i64 k 3 = 2 := by rw [and_mask2]; exact h
  go_enter Tryz.func125, Tryz.ntmps125
  go_wp2
  go_ret
  exact ⟨rfl, (by repeat (first | exact Below.refl _ _ | refine Below.drew ?_ | refine below_dn ?_ _ | refine Below.setCell ?_ (by first | omega | (simp; done) | (simp; omega)) _ | refine Below.alloc ?_ (by first | omega | (simp; done) | (simp; omega)) _ | refine Below.trans ?_ (Below.mono (by assumption) (by first | omega | (simp; done) | (simp; omega)))))⟩
theorem atQuarter3 (f0 f1 f2 f3 : Value) (k : Int) (h : k % 4 = 3) (w : World) : Calls Tryz.prog 125 #[.agg #[f0, f1, f2, f3], .int .i64 k] w fun e w' =>
    e = .returned (f3) ∧ Below w.heap.size w w' := by
  have A : bits .and .i64 k 3 = 3 := by rw [and_mask2]; exact h
  go_enter Tryz.func125, Tryz.ntmps125
  go_wp2
  go_ret
  exact ⟨rfl, (by repeat (first | exact Below.refl _ _ | refine Below.drew ?_ | refine below_dn ?_ _ | refine Below.setCell ?_ (by first | omega | (simp; done) | (simp; omega)) _ | refine Below.alloc ?_ (by first | omega | (simp; done) | (simp; omega)) _ | refine Below.trans ?_ (Below.mono (by assumption) (by first | omega | (simp; done) | (simp; omega)))))⟩
end Go.Proofs.YtnhpacaidcjaoaaGreatDoor
