/- Contracts of the root of 1 minus a square, program and model. Conditions: numbers are int64; the program's two intervals are laid. -/
import Derived.Test.YtpjhoelfhmbpdaaDoorNumX
import Derived.Test.YtpjhoelfhmbpdaaDoorAtZ
import Derived.Test.YtpjhoelfhmbpdaaDoorFixB
import Derived.Test.YtpjhoelfhmbpdaaDoorIvF
import Derived.Test.YtpjhoelfhmbpdaaDoorIvA
import Derived.Test.YtpjhoelfhmbpdaaDoorIvN
import Derived.Test.YtpjhoelfhmbpdaaDoorIvM
import Derived.Test.YtpjhoelfhmbpdaaDoorWideZp
import Derived.Test.YtpjhoelfhmbpdaaDoorFixF
import Derived.Deep.RegionHeld3
import Derived.Outline
namespace Go.Proofs.YtpjhoelfhmbpdaaDoor
open Go.ChangeShapes Go.WideShapes Go.ChangeAt Go.RowKit
set_option linter.unusedVariables false
set_option maxRecDepth 100000
set_option linter.unusedSimpArgs false
set_option maxHeartbeats 1000000
theorem root_downG (a b r : Int) (ha : In64 a) (hb : In64 b) (S : sfI a b = r ∧ sfB a b = true) (R : In64 r) (w : World) : Calls Tryd.prog 42 #[.agg #[.int .i64 a, .int .i64 b]] w fun e w' =>
    e = .returned (.tuple #[.agg #[.int .i64 (hiW (r)), .int .u64 (loW (r))], .bool true]) ∧ Below w.heap.size w w' := by
  have C := Lib.hid (fun w => SqrtFloor_any a b ha hb w)
  have D := Lib.hid (fun w => WideOf_any r R w)
  go_enter Tryd.func42, Tryd.ntmps42
  go_wp2_with fail
  refine (C.out _).mono ?_
  rintro e w1 ⟨rfl, hb1⟩
  have hs1 : _ ≤ w1.heap.size := hb1.size
  try simp at hs1
  rw [S.1, S.2]
  go_wp2_with fail
  refine (D.out _).mono ?_
  rintro e w2 ⟨rfl, hb2⟩
  have hs2 : _ ≤ w2.heap.size := hb2.size
  try simp at hs2
  have o_j0 : Own (w2) (w.heap.size + 1) 0 (.int .i64 0) := (by repeat (first | (with_reducible assumption) | (with_reducible refine own_drew ?_) | (with_reducible refine own_drewN ?_) | (with_reducible refine own_kept (by assumption) ?_) | (refine ⟨?_, ?_⟩ <;> simp [go_sem]; done) | (with_reducible refine own_alloc ?_))); obtain ⟨j0, f_j0⟩ := o_j0; have o_j1 : Own (w2) (w.heap.size + 1) 1 (.int .u64 0) := (by repeat (first | (with_reducible assumption) | (with_reducible refine own_drew ?_) | (with_reducible refine own_drewN ?_) | (with_reducible refine own_kept (by assumption) ?_) | (refine ⟨?_, ?_⟩ <;> simp [go_sem]; done) | (with_reducible refine own_alloc ?_))); obtain ⟨j1, f_j1⟩ := o_j1
  go_wp2
  exact bodyPost_ret (v := .tuple #[.agg #[.int .i64 (hiW (r)), .int .u64 (loW (r))], .bool true]) (by simp [results, Tryd.results42, go_sem, j0, j1]) rfl ⟨rfl, (by repeat (first | exact Below.refl _ _ | refine Below.drew ?_ | refine Below.setCell ?_ (by first | omega | (simp; done) | (simp; omega)) _ | refine Below.alloc ?_ (by first | omega | (simp; done) | (simp; omega)) _ | refine Below.trans ?_ (Below.mono (by assumption) (by first | omega | (simp; done) | (simp; omega)))))⟩
theorem root_upG (a b r u : Int) (ha : In64 a) (hb : In64 b) (S : sfI a b = r ∧ sfB a b = true) (hR : In64 r) (R1 : In64 (r + 1)) (b0 : 0 ≤ r) (b1 : r ≤ 4294967296) (hu : u = if r * r = a * b then r else r + 1) (w : World) : Calls Tryd.prog 43 #[.agg #[.int .i64 a, .int .i64 b]] w fun e w' =>
    e = .returned (.tuple #[.agg #[.int .i64 (hiW (u)), .int .u64 (loW (u))], .bool true]) ∧ Below w.heap.size w w' := by
  have C := Lib.hid (fun w => SqrtFloor_any a b ha hb w)
  have M := Lib.hid (fun (x y : Int) (hx : In64 x) (hy : In64 y) w => WideMul_any x y hx hy w)
  have R := Lib.hid hR
  have HA := Lib.hid ha
  have HB := Lib.hid hb
  clear ha hb hR
  by_cases e : r * r = a * b
  · have U := Lib.hid (show u = r from hu.trans (if_pos e))
    clear hu
    have e0 : (hiW (r * r) == hiW (a * b)) = true := by simp [e]
    have e1 : (loW (r * r) == loW (a * b)) = true := by simp [e]
    clear e
    have D := Lib.hid (fun w => WideOf_any (r) R.out w)
    go_enter Tryd.func43, Tryd.ntmps43
    go_wp2_with fail
    refine (C.out _).mono ?_
    rintro e w1 ⟨rfl, hb1⟩
    have hs1 : _ ≤ w1.heap.size := hb1.size
    try simp at hs1
    rw [S.1, S.2]
    have o_p0 : Own (w1) (w.heap.size) 0 (.int .i64 a) := (by repeat (first | (with_reducible assumption) | (with_reducible refine own_drew ?_) | (with_reducible refine own_drewN ?_) | (with_reducible refine own_kept (by assumption) ?_) | (refine ⟨?_, ?_⟩ <;> simp [go_sem]; done) | (with_reducible refine own_alloc ?_))); obtain ⟨p0, f_p0⟩ := o_p0; have o_p1 : Own (w1) (w.heap.size) 1 (.int .i64 b) := (by repeat (first | (with_reducible assumption) | (with_reducible refine own_drew ?_) | (with_reducible refine own_drewN ?_) | (with_reducible refine own_kept (by assumption) ?_) | (refine ⟨?_, ?_⟩ <;> simp [go_sem]; done) | (with_reducible refine own_alloc ?_))); obtain ⟨p1, f_p1⟩ := o_p1
    go_wp2_with fail
    obtain ⟨hlt2, hlt3, hlt4, hlt5, hlt6, hlt7, hlt8, hlt9, hlt10, hlt11⟩ := below_add; go_region_held3 (fun w' => w'.cell? ⟨w.heap.size, 0, none⟩ = some (.int .i64 a) ∧ w'.cell? ⟨w.heap.size, 1, none⟩ = some (.int .i64 b)) (first | (with_reducible exact ((And.imp (cell_kept (by assumption)) (cell_kept (by assumption))) (by assumption))) | (with_reducible exact ((And.imp (cell_alloc) (cell_alloc)) (by assumption))) | (with_reducible exact ((And.imp (fun h => cell_far (by first | (simp; done) | (simp; omega)) (cell_far (by first | (simp; done) | (simp; omega)) h)) (fun h => cell_far (by first | (simp; done) | (simp; omega)) (cell_far (by first | (simp; done) | (simp; omega)) h))) (by assumption))) | (refine ⟨?_, ?_⟩ <;> repeat (first | (with_reducible assumption) | (with_reducible refine cell_far (by first | (simp; done) | (simp; omega)) ?_) | (with_reducible refine cell_drew ?_) | (with_reducible refine cell_drewN ?_) | (with_reducible refine cell_kept (by assumption) ?_) | (simp [go_sem]; done) | (with_reducible refine cell_alloc ?_))) | (simp [go_sem, *]; done)) ((go_at_call 76; refine (M.out _ _ (by first | exact R.out | exact HA.out) (by first | exact R.out | exact HB.out) _).mono ?_; rintro e w1 ⟨rfl, hb⟩; have hs : _ ≤ w1.heap.size := hb.size; (try simp at hs); obtain ⟨hc, hf, hl, hn, hm⟩ := behind hb))
    go_wp2_with fail
    refine (D.out _).mono ?_
    rintro e w4 ⟨rfl, hb4⟩
    have hs4 : _ ≤ w4.heap.size := hb4.size
    try simp at hs4
    have o_j0 : Own (w4) (w.heap.size + 1) 0 (.int .i64 0) := (by repeat (first | (with_reducible assumption) | (with_reducible refine own_drew ?_) | (with_reducible refine own_drewN ?_) | (with_reducible refine own_kept (by assumption) ?_) | (refine ⟨?_, ?_⟩ <;> simp [go_sem]; done) | (with_reducible refine own_alloc ?_))); obtain ⟨j0, f_j0⟩ := o_j0; have o_j1 : Own (w4) (w.heap.size + 1) 1 (.int .u64 0) := (by repeat (first | (with_reducible assumption) | (with_reducible refine own_drew ?_) | (with_reducible refine own_drewN ?_) | (with_reducible refine own_kept (by assumption) ?_) | (refine ⟨?_, ?_⟩ <;> simp [go_sem]; done) | (with_reducible refine own_alloc ?_))); obtain ⟨j1, f_j1⟩ := o_j1
    go_wp2
    exact bodyPost_ret (v := .tuple #[.agg #[.int .i64 (hiW (r)), .int .u64 (loW (r))], .bool true]) (by simp [results, Tryd.results43, go_sem, j0, j1]) rfl ⟨(by first | (rw [U.out]; done) | (rw [U.out]; rfl) | (simp [U.out]; done)), (by repeat (first | exact Below.refl _ _ | refine Below.drew ?_ | refine Below.setCell ?_ (by first | omega | (simp; done) | (simp; omega)) _ | refine Below.alloc ?_ (by first | omega | (simp; done) | (simp; omega)) _ | refine Below.trans ?_ (Below.mono (by assumption) (by first | omega | (simp; done) | (simp; omega)))))⟩
  · have U := Lib.hid (show u = r + 1 from hu.trans (if_neg e))
    clear hu
    by_cases f : hiW (r * r) = hiW (a * b)
    · have e0 : (hiW (r * r) == hiW (a * b)) = true := by simpa using f
      have e1 : (loW (r * r) == loW (a * b)) = false := by rw [Bool.eq_false_iff]; intro g; exact e (same_hl f (by simpa using g))
      clear e f
      have D := Lib.hid (fun w => WideOf_any (r + 1) R1 w)
      go_enter Tryd.func43, Tryd.ntmps43
      go_wp2_with fail
      refine (C.out _).mono ?_
      rintro e w1 ⟨rfl, hb1⟩
      have hs1 : _ ≤ w1.heap.size := hb1.size
      try simp at hs1
      rw [S.1, S.2]
      have o_p0 : Own (w1) (w.heap.size) 0 (.int .i64 a) := (by repeat (first | (with_reducible assumption) | (with_reducible refine own_drew ?_) | (with_reducible refine own_drewN ?_) | (with_reducible refine own_kept (by assumption) ?_) | (refine ⟨?_, ?_⟩ <;> simp [go_sem]; done) | (with_reducible refine own_alloc ?_))); obtain ⟨p0, f_p0⟩ := o_p0; have o_p1 : Own (w1) (w.heap.size) 1 (.int .i64 b) := (by repeat (first | (with_reducible assumption) | (with_reducible refine own_drew ?_) | (with_reducible refine own_drewN ?_) | (with_reducible refine own_kept (by assumption) ?_) | (refine ⟨?_, ?_⟩ <;> simp [go_sem]; done) | (with_reducible refine own_alloc ?_))); obtain ⟨p1, f_p1⟩ := o_p1
      go_wp2_with fail
      obtain ⟨hlt2, hlt3, hlt4, hlt5, hlt6, hlt7, hlt8, hlt9, hlt10, hlt11⟩ := below_add; go_region_held3 (fun w' => w'.cell? ⟨w.heap.size, 0, none⟩ = some (.int .i64 a) ∧ w'.cell? ⟨w.heap.size, 1, none⟩ = some (.int .i64 b)) (first | (with_reducible exact ((And.imp (cell_kept (by assumption)) (cell_kept (by assumption))) (by assumption))) | (with_reducible exact ((And.imp (cell_alloc) (cell_alloc)) (by assumption))) | (with_reducible exact ((And.imp (fun h => cell_far (by first | (simp; done) | (simp; omega)) (cell_far (by first | (simp; done) | (simp; omega)) h)) (fun h => cell_far (by first | (simp; done) | (simp; omega)) (cell_far (by first | (simp; done) | (simp; omega)) h))) (by assumption))) | (refine ⟨?_, ?_⟩ <;> repeat (first | (with_reducible assumption) | (with_reducible refine cell_far (by first | (simp; done) | (simp; omega)) ?_) | (with_reducible refine cell_drew ?_) | (with_reducible refine cell_drewN ?_) | (with_reducible refine cell_kept (by assumption) ?_) | (simp [go_sem]; done) | (with_reducible refine cell_alloc ?_))) | (simp [go_sem, *]; done)) ((go_at_call 76; refine (M.out _ _ (by first | exact R.out | exact HA.out) (by first | exact R.out | exact HB.out) _).mono ?_; rintro e w1 ⟨rfl, hb⟩; have hs : _ ≤ w1.heap.size := hb.size; (try simp at hs); obtain ⟨hc, hf, hl, hn, hm⟩ := behind hb))
      go_wp2_with fail
      refine (D.out _).mono ?_
      rintro e w4 ⟨rfl, hb4⟩
      have hs4 : _ ≤ w4.heap.size := hb4.size
      try simp at hs4
      have o_j0 : Own (w4) (w.heap.size + 1) 0 (.int .i64 0) := (by repeat (first | (with_reducible assumption) | (with_reducible refine own_drew ?_) | (with_reducible refine own_drewN ?_) | (with_reducible refine own_kept (by assumption) ?_) | (refine ⟨?_, ?_⟩ <;> simp [go_sem]; done) | (with_reducible refine own_alloc ?_))); obtain ⟨j0, f_j0⟩ := o_j0; have o_j1 : Own (w4) (w.heap.size + 1) 1 (.int .u64 0) := (by repeat (first | (with_reducible assumption) | (with_reducible refine own_drew ?_) | (with_reducible refine own_drewN ?_) | (with_reducible refine own_kept (by assumption) ?_) | (refine ⟨?_, ?_⟩ <;> simp [go_sem]; done) | (with_reducible refine own_alloc ?_))); obtain ⟨j1, f_j1⟩ := o_j1
      go_wp2
      exact bodyPost_ret (v := .tuple #[.agg #[.int .i64 (hiW (r + 1)), .int .u64 (loW (r + 1))], .bool true]) (by simp [results, Tryd.results43, go_sem, j0, j1]) rfl ⟨(by first | (rw [U.out]; done) | (rw [U.out]; rfl) | (simp [U.out]; done)), (by repeat (first | exact Below.refl _ _ | refine Below.drew ?_ | refine Below.setCell ?_ (by first | omega | (simp; done) | (simp; omega)) _ | refine Below.alloc ?_ (by first | omega | (simp; done) | (simp; omega)) _ | refine Below.trans ?_ (Below.mono (by assumption) (by first | omega | (simp; done) | (simp; omega)))))⟩
    · have e0 : (hiW (r * r) == hiW (a * b)) = false := by simpa using f
      clear e f
      have D := Lib.hid (fun w => WideOf_any (r + 1) R1 w)
      go_enter Tryd.func43, Tryd.ntmps43
      go_wp2_with fail
      refine (C.out _).mono ?_
      rintro e w1 ⟨rfl, hb1⟩
      have hs1 : _ ≤ w1.heap.size := hb1.size
      try simp at hs1
      rw [S.1, S.2]
      have o_p0 : Own (w1) (w.heap.size) 0 (.int .i64 a) := (by repeat (first | (with_reducible assumption) | (with_reducible refine own_drew ?_) | (with_reducible refine own_drewN ?_) | (with_reducible refine own_kept (by assumption) ?_) | (refine ⟨?_, ?_⟩ <;> simp [go_sem]; done) | (with_reducible refine own_alloc ?_))); obtain ⟨p0, f_p0⟩ := o_p0; have o_p1 : Own (w1) (w.heap.size) 1 (.int .i64 b) := (by repeat (first | (with_reducible assumption) | (with_reducible refine own_drew ?_) | (with_reducible refine own_drewN ?_) | (with_reducible refine own_kept (by assumption) ?_) | (refine ⟨?_, ?_⟩ <;> simp [go_sem]; done) | (with_reducible refine own_alloc ?_))); obtain ⟨p1, f_p1⟩ := o_p1
      go_wp2_with fail
      obtain ⟨hlt2, hlt3, hlt4, hlt5, hlt6, hlt7, hlt8, hlt9, hlt10, hlt11⟩ := below_add; go_region_held3 (fun w' => w'.cell? ⟨w.heap.size, 0, none⟩ = some (.int .i64 a) ∧ w'.cell? ⟨w.heap.size, 1, none⟩ = some (.int .i64 b)) (first | (with_reducible exact ((And.imp (cell_kept (by assumption)) (cell_kept (by assumption))) (by assumption))) | (with_reducible exact ((And.imp (cell_alloc) (cell_alloc)) (by assumption))) | (with_reducible exact ((And.imp (fun h => cell_far (by first | (simp; done) | (simp; omega)) (cell_far (by first | (simp; done) | (simp; omega)) h)) (fun h => cell_far (by first | (simp; done) | (simp; omega)) (cell_far (by first | (simp; done) | (simp; omega)) h))) (by assumption))) | (refine ⟨?_, ?_⟩ <;> repeat (first | (with_reducible assumption) | (with_reducible refine cell_far (by first | (simp; done) | (simp; omega)) ?_) | (with_reducible refine cell_drew ?_) | (with_reducible refine cell_drewN ?_) | (with_reducible refine cell_kept (by assumption) ?_) | (simp [go_sem]; done) | (with_reducible refine cell_alloc ?_))) | (simp [go_sem, *]; done)) ((go_at_call 76; refine (M.out _ _ (by first | exact R.out | exact HA.out) (by first | exact R.out | exact HB.out) _).mono ?_; rintro e w1 ⟨rfl, hb⟩; have hs : _ ≤ w1.heap.size := hb.size; (try simp at hs); obtain ⟨hc, hf, hl, hn, hm⟩ := behind hb))
      go_wp2_with fail
      refine (D.out _).mono ?_
      rintro e w4 ⟨rfl, hb4⟩
      have hs4 : _ ≤ w4.heap.size := hb4.size
      try simp at hs4
      have o_j0 : Own (w4) (w.heap.size + 1) 0 (.int .i64 0) := (by repeat (first | (with_reducible assumption) | (with_reducible refine own_drew ?_) | (with_reducible refine own_drewN ?_) | (with_reducible refine own_kept (by assumption) ?_) | (refine ⟨?_, ?_⟩ <;> simp [go_sem]; done) | (with_reducible refine own_alloc ?_))); obtain ⟨j0, f_j0⟩ := o_j0; have o_j1 : Own (w4) (w.heap.size + 1) 1 (.int .u64 0) := (by repeat (first | (with_reducible assumption) | (with_reducible refine own_drew ?_) | (with_reducible refine own_drewN ?_) | (with_reducible refine own_kept (by assumption) ?_) | (refine ⟨?_, ?_⟩ <;> simp [go_sem]; done) | (with_reducible refine own_alloc ?_))); obtain ⟨j1, f_j1⟩ := o_j1
      go_wp2
      exact bodyPost_ret (v := .tuple #[.agg #[.int .i64 (hiW (r + 1)), .int .u64 (loW (r + 1))], .bool true]) (by simp [results, Tryd.results43, go_sem, j0, j1]) rfl ⟨(by first | (rw [U.out]; done) | (rw [U.out]; rfl) | (simp [U.out]; done)), (by repeat (first | exact Below.refl _ _ | refine Below.drew ?_ | refine Below.setCell ?_ (by first | omega | (simp; done) | (simp; omega)) _ | refine Below.alloc ?_ (by first | omega | (simp; done) | (simp; omega)) _ | refine Below.trans ?_ (Below.mono (by assumption) (by first | omega | (simp; done) | (simp; omega)))))⟩
theorem fixOf_gdown (a b r : Int) (ha : In64 a) (hb : In64 b) (S : sfI a b = r ∧ sfB a b = true) (hR : InF r) (w : World) : Calls Tryd.prog 41 #[.func (Fn.func 42) #[.agg #[.int .i64 a, .int .i64 b]] #[]] w fun e w' =>
    e = .returned (.tuple #[.int .i64 r, .bool true]) ∧ Below w.heap.size w w' := by
  have C := Lib.hid (fun w => root_downG a b r ha hb S (inF_64 hR) w)
  have WI := Lib.hid (fun w => WideInt_any r (by unfold InF at hR; unfold InW; omega) w)
  have O := okW_yes (inF_64 hR)
  have V := Lib.hid (intW_self (inF_64 hR))
  have FF := okF_yes hR
  clear S hR ha hb
  go_enter Tryd.func41, Tryd.ntmps41
  go_wp2_with fail
  refine (C.out _).mono ?_
  rintro e w1 ⟨rfl, hb1⟩
  have hs1 : _ ≤ w1.heap.size := hb1.size
  try simp at hs1
  go_wp2_with fail
  refine (WI.out _).mono ?_
  rintro e w2 ⟨rfl, hb2⟩
  have hs2 : _ ≤ w2.heap.size := hb2.size
  try simp at hs2
  rw [V.out]
  go_wp2_with fail
  refine (ValidFix_any r _).mono ?_
  rintro e w3 ⟨rfl, rfl⟩
  go_wp2
  go_ret2
  exact ⟨rfl, (by repeat (first | exact Below.refl _ _ | refine Below.drew ?_ | refine Below.setCell ?_ (by first | omega | (simp; done) | (simp; omega)) _ | refine Below.alloc ?_ (by first | omega | (simp; done) | (simp; omega)) _ | refine Below.trans ?_ (Below.mono (by assumption) (by first | omega | (simp; done) | (simp; omega)))))⟩
theorem fixOf_gup (a b r u : Int) (ha : In64 a) (hb : In64 b) (S : sfI a b = r ∧ sfB a b = true) (hR' : In64 r) (R1 : In64 (r + 1)) (b0 : 0 ≤ r) (b1 : r ≤ 4294967296) (hu : u = if r * r = a * b then r else r + 1) (hR : InF u) (w : World) : Calls Tryd.prog 41 #[.func (Fn.func 43) #[.agg #[.int .i64 a, .int .i64 b]] #[]] w fun e w' =>
    e = .returned (.tuple #[.int .i64 u, .bool true]) ∧ Below w.heap.size w w' := by
  have C := Lib.hid (fun w => root_upG a b r u ha hb S hR' R1 b0 b1 hu w)
  have WI := Lib.hid (fun w => WideInt_any u (by unfold InF at hR; unfold InW; omega) w)
  have O := okW_yes (inF_64 hR)
  have V := Lib.hid (intW_self (inF_64 hR))
  have FF := okF_yes hR
  clear S hR ha hb hR' R1 b0 b1 hu
  go_enter Tryd.func41, Tryd.ntmps41
  go_wp2_with fail
  refine (C.out _).mono ?_
  rintro e w1 ⟨rfl, hb1⟩
  have hs1 : _ ≤ w1.heap.size := hb1.size
  try simp at hs1
  go_wp2_with fail
  refine (WI.out _).mono ?_
  rintro e w2 ⟨rfl, hb2⟩
  have hs2 : _ ≤ w2.heap.size := hb2.size
  try simp at hs2
  rw [V.out]
  go_wp2_with fail
  refine (ValidFix_any u _).mono ?_
  rintro e w3 ⟨rfl, rfl⟩
  go_wp2
  go_ret2
  exact ⟨rfl, (by repeat (first | exact Below.refl _ _ | refine Below.drew ?_ | refine Below.setCell ?_ (by first | omega | (simp; done) | (simp; omega)) _ | refine Below.alloc ?_ (by first | omega | (simp; done) | (simp; omega)) _ | refine Below.trans ?_ (Below.mono (by assumption) (by first | omega | (simp; done) | (simp; omega)))))⟩
theorem CircleAt_any (n : Int) (w : World) (hg : GloR w) : Calls Tryd.prog 16 #[.int .i64 n] w fun e w' =>
    e = .returned (.agg #[.int .i64 (cirC n).1, .int .i64 (cirC n).2]) ∧ Below w.heap.size w w' := by
  obtain ⟨g0, g1⟩ := hg
  have lg0 : 0 < w.heap.size := World.block_lt_of_cell? _ _ g0
  have H := Lib.hid (fun w => HasI_any rng n w)
  by_cases h : InR n
  · have hh : hasI rng n = true := by unfold hasI rng; unfold InR at h; simp; omega
    rw [hh] at H
    have E := Lib.hid (show cirC n = (cirD n, cirU n) from if_pos h)
    obtain ⟨b0, b1, b2, b3⟩ := cirD_in h
    have h' := h
    unfold InR at h'
    have CD := Lib.hid (fun w => fixOf_gdown (4294967296 - n) (4294967296 + n) (cirD n) (by unfold In64; omega) (by unfold In64; omega) (sf_cir h) (by unfold InF; omega) w)
    have CU := Lib.hid (fun w => fixOf_gup (4294967296 - n) (4294967296 + n) (cirD n) (cirU n) (by unfold In64; omega) (by unfold In64; omega) (sf_cir h) (by unfold In64; omega) (by unfold In64; omega) b0 b1 rfl (by unfold InF; omega) w)
    obtain ⟨a, ha⟩ : ∃ a, a = 4294967296 - n := ⟨_, rfl⟩
    obtain ⟨b, hb⟩ : ∃ b, b = 4294967296 + n := ⟨_, rfl⟩
    rw [← ha, ← hb] at CD CU
    have W1 : IntKind.i64.wrap (4294967296 - n) = a := by rw [IntKind.wrap_i64]; omega
    have W2 : IntKind.i64.wrap (4294967296 + n) = b := by rw [IntKind.wrap_i64]; omega
    clear ha hb
    have IT := Lib.hid (fun w => interval_any (cirD n) (cirU n) true w)
    have ek : kn true (cirD n, cirU n) = (cirD n, cirU n) := kn_bnd (by unfold Bnd; simp only; omega)
    rw [ek] at IT
    clear h h' hh ek
    generalize cirD n = r at *
    generalize cirU n = u at *
    go_enter Tryd.func16, Tryd.ntmps16
    go_wp2_with fail
    refine (H.out _).mono ?_
    rintro e w1 ⟨rfl, hb1⟩
    have hs1 : _ ≤ w1.heap.size := hb1.size
    try simp at hs1
    have o_q10 : Own (w1) (w.heap.size) 0 (.int .i64 0) := (by repeat (first | (with_reducible assumption) | (with_reducible refine own_drew ?_) | (with_reducible refine own_drewN ?_) | (with_reducible refine own_kept (by assumption) ?_) | (refine ⟨?_, ?_⟩ <;> simp [go_sem]; done) | (with_reducible refine own_alloc ?_))); have q10 := o_q10.1; have f_q10 := o_q10.2; have o_q11 : Own (w1) (w.heap.size) 1 (.int .i64 0) := (by repeat (first | (with_reducible assumption) | (with_reducible refine own_drew ?_) | (with_reducible refine own_drewN ?_) | (with_reducible refine own_kept (by assumption) ?_) | (refine ⟨?_, ?_⟩ <;> simp [go_sem]; done) | (with_reducible refine own_alloc ?_))); have q11 := o_q11.1; have f_q11 := o_q11.2
    go_wp2_with fail
    refine (CD.out _).mono ?_
    rintro e w2 ⟨rfl, hb2⟩
    have hs2 : _ ≤ w2.heap.size := hb2.size
    try simp at hs2
    have o_q20 : Own (w2) (w.heap.size) 0 (.int .i64 0) := (by repeat (first | (with_reducible assumption) | (with_reducible refine own_drew ?_) | (with_reducible refine own_drewN ?_) | (with_reducible refine own_kept (by assumption) ?_) | (refine ⟨?_, ?_⟩ <;> simp [go_sem]; done) | (with_reducible refine own_alloc ?_))); have q20 := o_q20.1; have f_q20 := o_q20.2; have o_q21 : Own (w2) (w.heap.size) 1 (.int .i64 0) := (by repeat (first | (with_reducible assumption) | (with_reducible refine own_drew ?_) | (with_reducible refine own_drewN ?_) | (with_reducible refine own_kept (by assumption) ?_) | (refine ⟨?_, ?_⟩ <;> simp [go_sem]; done) | (with_reducible refine own_alloc ?_))); have q21 := o_q21.1; have f_q21 := o_q21.2
    have o_h20 : Own (w2) (w1.heap.size) 0 (.int .i64 a) := (by repeat (first | (with_reducible assumption) | (with_reducible refine own_drew ?_) | (with_reducible refine own_drewN ?_) | (with_reducible refine own_kept (by assumption) ?_) | (refine ⟨?_, ?_⟩ <;> simp [go_sem]; done) | (with_reducible refine own_alloc ?_))); have h20 := o_h20.1; have f_h20 := o_h20.2; have o_h21 : Own (w2) (w1.heap.size) 1 (.int .i64 b) := (by repeat (first | (with_reducible assumption) | (with_reducible refine own_drew ?_) | (with_reducible refine own_drewN ?_) | (with_reducible refine own_kept (by assumption) ?_) | (refine ⟨?_, ?_⟩ <;> simp [go_sem]; done) | (with_reducible refine own_alloc ?_))); have h21 := o_h21.1; have f_h21 := o_h21.2
    go_wp2_with fail
    refine (CU.out _).mono ?_
    rintro e w3 ⟨rfl, hb3⟩
    have hs3 : _ ≤ w3.heap.size := hb3.size
    try simp at hs3
    have o_q30 : Own (w3) (w.heap.size) 0 (.int .i64 0) := (by repeat (first | (with_reducible assumption) | (with_reducible refine own_drew ?_) | (with_reducible refine own_drewN ?_) | (with_reducible refine own_kept (by assumption) ?_) | (refine ⟨?_, ?_⟩ <;> simp [go_sem]; done) | (with_reducible refine own_alloc ?_))); have q30 := o_q30.1; have f_q30 := o_q30.2; have o_q31 : Own (w3) (w.heap.size) 1 (.int .i64 0) := (by repeat (first | (with_reducible assumption) | (with_reducible refine own_drew ?_) | (with_reducible refine own_drewN ?_) | (with_reducible refine own_kept (by assumption) ?_) | (refine ⟨?_, ?_⟩ <;> simp [go_sem]; done) | (with_reducible refine own_alloc ?_))); have q31 := o_q31.1; have f_q31 := o_q31.2
    go_wp2_with fail
    refine (IT.out _).mono ?_
    rintro e w4 ⟨rfl, hb4⟩
    have hs4 : _ ≤ w4.heap.size := hb4.size
    try simp at hs4
    have o_q40 : Own (w4) (w.heap.size) 0 (.int .i64 0) := (by repeat (first | (with_reducible assumption) | (with_reducible refine own_drew ?_) | (with_reducible refine own_drewN ?_) | (with_reducible refine own_kept (by assumption) ?_) | (refine ⟨?_, ?_⟩ <;> simp [go_sem]; done) | (with_reducible refine own_alloc ?_))); obtain ⟨q40, f_q40⟩ := o_q40; have o_q41 : Own (w4) (w.heap.size) 1 (.int .i64 0) := (by repeat (first | (with_reducible assumption) | (with_reducible refine own_drew ?_) | (with_reducible refine own_drewN ?_) | (with_reducible refine own_kept (by assumption) ?_) | (refine ⟨?_, ?_⟩ <;> simp [go_sem]; done) | (with_reducible refine own_alloc ?_))); obtain ⟨q41, f_q41⟩ := o_q41
    go_wp2
    exact bodyPost_ret (v := .agg #[.int .i64 r, .int .i64 u]) (by simp [results, Tryd.results16, go_sem, q40, q41]) rfl ⟨(by first | (rw [E.out]; done) | (rw [E.out]; rfl) | (simp [E.out]; done)), (by repeat (first | exact Below.refl _ _ | refine Below.drew ?_ | refine below_dn ?_ _ | refine Below.setCell ?_ (by first | omega | (simp; done) | (simp; omega)) _ | refine Below.alloc ?_ (by first | omega | (simp; done) | (simp; omega)) _ | refine Below.trans ?_ (Below.mono (by assumption) (by first | omega | (simp; done) | (simp; omega)))))⟩
  · have hh : hasI rng n = false := by unfold hasI rng Bnd; unfold InR at h; simp; omega
    rw [hh] at H
    have E := Lib.hid (show cirC n = whl from if_neg h)
    clear h hh
    go_enter Tryd.func16, Tryd.ntmps16
    go_wp2_with fail
    refine (H.out _).mono ?_
    rintro e w1 ⟨rfl, hb1⟩
    have hs1 : _ ≤ w1.heap.size := hb1.size
    try simp at hs1
    have o_q10 : Own (w1) (w.heap.size) 0 (.int .i64 0) := (by repeat (first | (with_reducible assumption) | (with_reducible refine own_drew ?_) | (with_reducible refine own_drewN ?_) | (with_reducible refine own_kept (by assumption) ?_) | (refine ⟨?_, ?_⟩ <;> simp [go_sem]; done) | (with_reducible refine own_alloc ?_))); have q10 := o_q10.1; have f_q10 := o_q10.2; have o_q11 : Own (w1) (w.heap.size) 1 (.int .i64 0) := (by repeat (first | (with_reducible assumption) | (with_reducible refine own_drew ?_) | (with_reducible refine own_drewN ?_) | (with_reducible refine own_kept (by assumption) ?_) | (refine ⟨?_, ?_⟩ <;> simp [go_sem]; done) | (with_reducible refine own_alloc ?_))); have q11 := o_q11.1; have f_q11 := o_q11.2
    go_wp2_with fail
    refine (Whole_any _).mono ?_
    rintro e w2 ⟨rfl, hb2⟩
    have hs2 : _ ≤ w2.heap.size := hb2.size
    try simp at hs2
    have o_q20 : Own (w2) (w.heap.size) 0 (.int .i64 0) := (by repeat (first | (with_reducible assumption) | (with_reducible refine own_drew ?_) | (with_reducible refine own_drewN ?_) | (with_reducible refine own_kept (by assumption) ?_) | (refine ⟨?_, ?_⟩ <;> simp [go_sem]; done) | (with_reducible refine own_alloc ?_))); obtain ⟨q20, f_q20⟩ := o_q20; have o_q21 : Own (w2) (w.heap.size) 1 (.int .i64 0) := (by repeat (first | (with_reducible assumption) | (with_reducible refine own_drew ?_) | (with_reducible refine own_drewN ?_) | (with_reducible refine own_kept (by assumption) ?_) | (refine ⟨?_, ?_⟩ <;> simp [go_sem]; done) | (with_reducible refine own_alloc ?_))); obtain ⟨q21, f_q21⟩ := o_q21
    go_wp2
    exact bodyPost_ret (v := .agg #[.int .i64 (-1152921504606846976), .int .i64 1152921504606846976]) (by simp [results, Tryd.results16, go_sem, q20, q21]) rfl ⟨(by first | (rw [E.out]; done) | (rw [E.out]; rfl) | (simp [E.out]; done)), (by repeat (first | exact Below.refl _ _ | refine Below.drew ?_ | refine below_dn ?_ _ | refine Below.setCell ?_ (by first | omega | (simp; done) | (simp; omega)) _ | refine Below.alloc ?_ (by first | omega | (simp; done) | (simp; omega)) _ | refine Below.trans ?_ (Below.mono (by assumption) (by first | omega | (simp; done) | (simp; omega)))))⟩
end Go.Proofs.YtpjhoelfhmbpdaaDoor
