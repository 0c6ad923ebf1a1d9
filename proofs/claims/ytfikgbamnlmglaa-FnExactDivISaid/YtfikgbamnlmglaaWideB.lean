/- Contracts of negatives, complements, sums and int64 values of wide integers, program and model alike. Conditions: numbers are int64 or Wide. -/
import Derived.Test.YtfikgbamnlmglaaWideA
import Derived.Shelf.Spec.BitsCarry
import Derived.Deep.RegionHeld3
import Derived.Outline
namespace Go.Proofs.Ytfikgbamnlmglaa
open Go.ChangeShapes Go.WideShapes Go.ChangeAt Go.RowKit
set_option linter.unusedVariables false
set_option maxRecDepth 100000

theorem size_neg {n : Int} (hn : In64 n) (h : n < 0) : IntKind.u64.wrap (-IntKind.u64.wrap n) = (n.natAbs : Int) := by
  rw [wrapU, wrapU]; unfold In64 at hn; unfold loW B64; omega
theorem size_pos {n : Int} (hn : In64 n) (h : ¬ n < 0) : IntKind.u64.wrap n = (n.natAbs : Int) := by
  rw [wrapU]; unfold In64 at hn; unfold loW B64; omega
theorem l02Size_any (n : Int) (hn : In64 n) (w : World) : Calls Try.prog 164 #[.int .i64 n] w fun e w' =>
    e = .returned (.int .u64 (n.natAbs : Int)) ∧ w = w' := by
  by_cases h : n < 0
  · have e1 := Lib.hid (size_neg hn h)
    go_enter Try.func164, Try.ntmps164
    go_wp2
    go_ret
    exact ⟨by simp [e1.out], rfl⟩
  · have e1 := Lib.hid (size_pos hn h)
    go_enter Try.func164, Try.ntmps164
    go_wp2
    go_ret
    exact ⟨by simp [e1.out], rfl⟩
theorem l02Minus_any (v : Int) (hv : InW v) (w : World) : Calls Try.prog 160 #[.agg #[.int .i64 (hiW v), .int .u64 (loW v)]] w fun e w' =>
    e = .returned (.agg #[.int .i64 (hiW (negW v)), .int .u64 (loW (negW v))]) ∧ Below w.heap.size w w' := by
  have hh : In64 (hiW v) := hiW_in hv
  have hl := Lib.hid (not_i64 hh)
  by_cases e : loW v = 0
  · obtain ⟨e1, e2⟩ := neg_zero hv e
    have E1 := Lib.hid e1
    have E2 := Lib.hid e2
    have e0 : (loW v == 0) = true := by simpa using e
    have E := Lib.hid e
    clear e1 e2 e
    go_enter Try.func160, Try.ntmps160
    go_wp2
    exact bodyPost_ret (v := .agg #[.int .i64 (wrap64 (-hiW v)), .int .u64 (IntKind.u64.wrap (-loW v))]) (by simp [results, Try.results160, go_sem]) rfl ⟨by rw [E1.out, E2.out, E.out]; rfl, (by repeat (first | exact Below.refl _ _ | refine Below.drew ?_ | refine Below.setCell ?_ (by first | omega | (simp; done) | (simp; omega)) _ | refine Below.alloc ?_ (by first | omega | (simp; done) | (simp; omega)) _ | refine Below.trans ?_ (Below.mono (by assumption) (by first | omega | (simp; done) | (simp; omega)))))⟩
  · obtain ⟨e1, e2⟩ := neg_some hv e
    have E1 := Lib.hid e1
    have E2 := Lib.hid e2
    have e0 : (loW v == 0) = false := by simpa using e
    clear e1 e2 e
    go_enter Try.func160, Try.ntmps160
    go_wp2
    exact bodyPost_ret (v := .agg #[.int .i64 (bits BinOp.xor IntKind.i64 (-1) (hiW v)), .int .u64 (IntKind.u64.wrap (-loW v))]) (by simp [results, Try.results160, go_sem]) rfl ⟨by rw [E1.out, E2.out, hl.out, wrapU], (by repeat (first | exact Below.refl _ _ | refine Below.drew ?_ | refine Below.setCell ?_ (by first | omega | (simp; done) | (simp; omega)) _ | refine Below.alloc ?_ (by first | omega | (simp; done) | (simp; omega)) _ | refine Below.trans ?_ (Below.mono (by assumption) (by first | omega | (simp; done) | (simp; omega)))))⟩
/-- What is borrowed. -/
def borrowW (x y b : Int) : Int := if x < y + b then 1 else 0
theorem borrow_01 (x y b : Int) : borrowW x y b = 0 ∨ borrowW x y b = 1 := by unfold borrowW; split <;> simp
theorem sub64_law (x y b : Int) (hx : InU x) (hy : InU y) (hb : b = 0 ∨ b = 1) (w : World) :
    (callFunc 170 #[.int .u64 x, .int .u64 y, .int .u64 b]).run Try.prog w = .ok (.value (.tuple #[.int .u64 (loW (x - y - b)), .int .u64 (borrowW x y b)])) w := by
  obtain ⟨X, rfl⟩ : ∃ X : Nat, x = X := ⟨x.toNat, by unfold InU at hx; omega⟩
  obtain ⟨Y, rfl⟩ : ∃ Y : Nat, y = Y := ⟨y.toNat, by unfold InU at hy; omega⟩
  obtain ⟨B, rfl, hB⟩ : ∃ B : Nat, b = B ∧ B ≤ 1 := ⟨b.toNat, by omega, by omega⟩
  unfold InU at hx hy
  rw [run_callFunc_extern Try.func170 (by kernel_rfl) (by kernel_rfl) (by kernel_rfl) (e := sub64Entry) (by kernel_rfl), run_sub64 X Y B hB]
  simp only [Result.andThen]
  have e1 : (((X + 18446744073709551616 - Y - B) % 18446744073709551616 : Nat) : Int) = loW ((X : Int) - Y - B) := by unfold loW B64; omega
  have e2 : ((if X < Y + B then 1 else 0 : Nat) : Int) = borrowW X Y B := by
    unfold borrowW
    by_cases h : X < Y + B
    · rw [if_pos h, if_pos (by omega)]; rfl
    · rw [if_neg h, if_neg (by omega)]; rfl
  rw [e1, e2]
theorem neg_sub {v : Int} (hv : InW v) : wrap64 (loW (-loW (hiW v) - borrowW 0 (loW v) 0)) = hiW (negW v) ∧ loW (-loW v) = loW (negW v) := by
  rw [wrap64_def]; unfold InW at hv; unfold borrowW negW loW hiW B64
  split <;> split <;> omega
theorem negative_any (v : Int) (hv : InW v) (w : World) : Calls Try.prog 165 #[.agg #[.int .i64 (hiW v), .int .u64 (loW v)]] w fun e w' =>
    e = .returned (.agg #[.int .i64 (hiW (negW v)), .int .u64 (loW (negW v))]) ∧ Below w.heap.size w w' := by
  obtain ⟨e1, e2⟩ := neg_sub hv
  have E1 := Lib.hid e1
  have E2 := Lib.hid e2
  clear e1 e2
  go_enter Try.func165, Try.ntmps165
  go_wp2_with fail
  rw [sub64_law 0 (loW v) 0 (by unfold InU; omega) (loW_in v) (.inl rfl)]
  go_wp2_with fail
  rw [wrapU, sub64_law 0 (loW (hiW v)) (borrowW 0 (loW v) 0) (by unfold InU; omega) (loW_in _) (borrow_01 _ _ _)]
  go_wp2
  exact bodyPost_ret (v := .agg #[.int .i64 (wrap64 (loW (-loW (hiW v) - borrowW 0 (loW v) 0))), .int .u64 (loW (-loW v))]) (by simp [results, Try.results165, go_sem]) rfl ⟨by rw [E1.out, E2.out], (by repeat (first | exact Below.refl _ _ | refine Below.drew ?_ | refine Below.setCell ?_ (by first | omega | (simp; done) | (simp; omega)) _ | refine Below.alloc ?_ (by first | omega | (simp; done) | (simp; omega)) _ | refine Below.trans ?_ (Below.mono (by assumption) (by first | omega | (simp; done) | (simp; omega)))))⟩
theorem l02Plus_any (u v : Int) (hu : InW u) (hv : InW v) (w : World) : Calls Try.prog 161 #[.agg #[.int .i64 (hiW u), .int .u64 (loW u)], .agg #[.int .i64 (hiW v), .int .u64 (loW v)]] w fun e w' =>
    e = .returned (.agg #[.int .i64 (hiW (addW u v)), .int .u64 (loW (addW u v))]) ∧ Below w.heap.size w w' := by
  by_cases c : loW (loW u + loW v) < loW u
  · obtain ⟨e1, e2⟩ := add_carry hu hv c
    have E1 := Lib.hid e1
    have E2 := Lib.hid e2
    have c0 : IntKind.u64.wrap (loW u + loW v) < loW u := by rw [wrapU]; exact c
    clear e1 e2 c
    go_enter Try.func161, Try.ntmps161
    go_wp2
    exact bodyPost_ret (v := .agg #[.int .i64 (wrap64 (wrap64 (hiW u + hiW v) + 1)), .int .u64 (IntKind.u64.wrap (loW u + loW v))]) (by simp [results, Try.results161, go_sem]) rfl ⟨by rw [E1.out, E2.out, wrapU], (by repeat (first | exact Below.refl _ _ | refine Below.drew ?_ | refine Below.setCell ?_ (by first | omega | (simp; done) | (simp; omega)) _ | refine Below.alloc ?_ (by first | omega | (simp; done) | (simp; omega)) _ | refine Below.trans ?_ (Below.mono (by assumption) (by first | omega | (simp; done) | (simp; omega)))))⟩
  · obtain ⟨e1, e2⟩ := add_plain hu hv c
    have E1 := Lib.hid e1
    have E2 := Lib.hid e2
    have c0 : ¬ IntKind.u64.wrap (loW u + loW v) < loW u := by rw [wrapU]; exact c
    clear e1 e2 c
    go_enter Try.func161, Try.ntmps161
    go_wp2
    exact bodyPost_ret (v := .agg #[.int .i64 (wrap64 (hiW u + hiW v)), .int .u64 (IntKind.u64.wrap (loW u + loW v))]) (by simp [results, Try.results161, go_sem]) rfl ⟨by rw [E1.out, E2.out, wrapU], (by repeat (first | exact Below.refl _ _ | refine Below.drew ?_ | refine Below.setCell ?_ (by first | omega | (simp; done) | (simp; omega)) _ | refine Below.alloc ?_ (by first | omega | (simp; done) | (simp; omega)) _ | refine Below.trans ?_ (Below.mono (by assumption) (by first | omega | (simp; done) | (simp; omega)))))⟩
theorem complement_any (v : Int) (hv : InW v) (w : World) : Calls Try.prog 152 #[.agg #[.int .i64 (hiW v), .int .u64 (loW v)]] w fun e w' =>
    e = .returned (.agg #[.int .i64 (hiW (-1 - v)), .int .u64 (loW (-1 - v))]) ∧ Below w.heap.size w w' := by
  obtain ⟨e1, e2⟩ := compl_hl hv
  have E1 := Lib.hid (e1.trans (not_i64 (hiW_in hv)).symm)
  have E2 := Lib.hid (e2.trans (not_u64 (loW_in v)).symm)
  clear e1 e2
  go_enter Try.func152, Try.ntmps152
  go_wp2
  exact bodyPost_ret (v := .agg #[.int .i64 (bits BinOp.xor IntKind.i64 (-1) (hiW v)), .int .u64 (bits BinOp.xor IntKind.u64 IntKind.u64.max (loW v))]) (by simp [results, Try.results152, go_sem]) rfl ⟨by rw [E1.out, E2.out], (by repeat (first | exact Below.refl _ _ | refine Below.drew ?_ | refine Below.setCell ?_ (by first | omega | (simp; done) | (simp; omega)) _ | refine Below.alloc ?_ (by first | omega | (simp; done) | (simp; omega)) _ | refine Below.trans ?_ (Below.mono (by assumption) (by first | omega | (simp; done) | (simp; omega)))))⟩
theorem WideInt_back (v : Int) (h : In64 v) (w : World) : Calls Try.prog 145 #[.int .i64 (wrap64 (loW v))] w fun e w' =>
    e = .returned (.agg #[.int .i64 (hiW v), .int .u64 (loW v)]) ∧ Below w.heap.size w w' := by
  rw [lo_back h]; exact WideOf_any v h w
theorem WideInt_other (v : Int) (w : World) : Calls Try.prog 145 #[.int .i64 (wrap64 (loW v))] w fun e w' =>
    e = .returned (.agg #[.int .i64 (hiW (wrap64 (loW v))), .int .u64 (loW v)]) ∧ Below w.heap.size w w' :=
  (WideOf_any _ (in64_wrap _) w).mono fun e w' ⟨he, hb⟩ => ⟨by rw [he, lo_lo], hb⟩
theorem WideInt_any (v : Int) (hv : InW v) (w : World) : Calls Try.prog 141 #[.agg #[.int .i64 (hiW v), .int .u64 (loW v)]] w fun e w' =>
    e = .returned (.tuple #[.int .i64 (intW v), .bool (okW v)]) ∧ Below w.heap.size w w' := by
  by_cases h : In64 v
  · have E0 := Lib.hid (show intW v = v by unfold intW; rw [if_pos h])
    have E1 := Lib.hid (show okW v = true by unfold okW; exact decide_eq_true h)
    have E2 := Lib.hid (lo_back h)
    go_enter Try.func141, Try.ntmps141
    go_wp2_with fail
    go_region_held3 (fun w' => w'.cell? ⟨w.heap.size, 0, none⟩ = some (.int .i64 (hiW v)) ∧ w'.cell? ⟨w.heap.size, 1, none⟩ = some (.int .u64 (loW v))) (first | go_keep | (refine ⟨(hb.cell (by simp)).trans ?_, (hb.cell (by simp)).trans ?_⟩ <;> simp)) ((go_at_call 145; refine (WideInt_back v h _).mono ?_; rintro e w1 ⟨rfl, hb⟩))
    go_wp2
    go_ret2
    exact ⟨by simp [E0.out, E1.out, E2.out], (by repeat (first | exact Below.refl _ _ | refine Below.drew ?_ | refine Below.setCell ?_ (by first | omega | (simp; done) | (simp; omega)) _ | refine Below.alloc ?_ (by first | omega | (simp; done) | (simp; omega)) _ | refine Below.trans ?_ (Below.mono (by assumption) (by first | omega | (simp; done) | (simp; omega)))))⟩
  · have E0 := Lib.hid (show intW v = 0 by unfold intW; rw [if_neg h])
    have E1 := Lib.hid (show okW v = false by unfold okW; exact decide_eq_false h)
    have e2 := hi_other hv h
    have e3 : (hiW (wrap64 (loW v)) == hiW v) = false := by simpa using e2
    go_enter Try.func141, Try.ntmps141
    go_wp2_with fail
    go_region_held3 (fun w' => w'.cell? ⟨w.heap.size, 0, none⟩ = some (.int .i64 (hiW v)) ∧ w'.cell? ⟨w.heap.size, 1, none⟩ = some (.int .u64 (loW v))) (first | go_keep | (refine ⟨(hb.cell (by simp)).trans ?_, (hb.cell (by simp)).trans ?_⟩ <;> simp)) ((go_at_call 145; refine (WideInt_other v _).mono ?_; rintro e w1 ⟨rfl, hb⟩))
    go_wp2
    go_ret2
    exact ⟨by simp [E0.out, E1.out], (by repeat (first | exact Below.refl _ _ | refine Below.drew ?_ | refine Below.setCell ?_ (by first | omega | (simp; done) | (simp; omega)) _ | refine Below.alloc ?_ (by first | omega | (simp; done) | (simp; omega)) _ | refine Below.trans ?_ (Below.mono (by assumption) (by first | omega | (simp; done) | (simp; omega)))))⟩
theorem l02Int_back (v : Int) (h : In64 v) (w : World) : Calls Try.prog 162 #[.int .i64 (wrap64 (loW v))] w fun e w' =>
    e = .returned (.agg #[.int .i64 (hiW v), .int .u64 (loW v)]) ∧ Below w.heap.size w w' := by
  rw [lo_back h]; exact l02Of_any v h w
theorem l02Int_other (v : Int) (w : World) : Calls Try.prog 162 #[.int .i64 (wrap64 (loW v))] w fun e w' =>
    e = .returned (.agg #[.int .i64 (hiW (wrap64 (loW v))), .int .u64 (loW v)]) ∧ Below w.heap.size w w' :=
  (l02Of_any _ (in64_wrap _) w).mono fun e w' ⟨he, hb⟩ => ⟨by rw [he, lo_lo], hb⟩
theorem l02Int_any (v : Int) (hv : InW v) (w : World) : Calls Try.prog 151 #[.agg #[.int .i64 (hiW v), .int .u64 (loW v)]] w fun e w' =>
    e = .returned (.tuple #[.int .i64 (intW v), .bool (okW v)]) ∧ Below w.heap.size w w' := by
  by_cases h : In64 v
  · have E0 := Lib.hid (show intW v = v by unfold intW; rw [if_pos h])
    have E1 := Lib.hid (show okW v = true by unfold okW; exact decide_eq_true h)
    have E2 := Lib.hid (lo_back h)
    go_enter Try.func151, Try.ntmps151
    go_wp2_with fail
    go_region_held3 (fun w' => w'.cell? ⟨w.heap.size, 0, none⟩ = some (.int .i64 (hiW v)) ∧ w'.cell? ⟨w.heap.size, 1, none⟩ = some (.int .u64 (loW v))) (first | go_keep | (refine ⟨(hb.cell (by simp)).trans ?_, (hb.cell (by simp)).trans ?_⟩ <;> simp)) ((go_at_call 162; refine (l02Int_back v h _).mono ?_; rintro e w1 ⟨rfl, hb⟩))
    go_wp2
    go_ret2
    exact ⟨by simp [E0.out, E1.out, E2.out], (by repeat (first | exact Below.refl _ _ | refine Below.drew ?_ | refine Below.setCell ?_ (by first | omega | (simp; done) | (simp; omega)) _ | refine Below.alloc ?_ (by first | omega | (simp; done) | (simp; omega)) _ | refine Below.trans ?_ (Below.mono (by assumption) (by first | omega | (simp; done) | (simp; omega)))))⟩
  · have E0 := Lib.hid (show intW v = 0 by unfold intW; rw [if_neg h])
    have E1 := Lib.hid (show okW v = false by unfold okW; exact decide_eq_false h)
    have e2 := hi_other hv h
    have e3 : (hiW (wrap64 (loW v)) == hiW v) = false := by simpa using e2
    go_enter Try.func151, Try.ntmps151
    go_wp2_with fail
    go_region_held3 (fun w' => w'.cell? ⟨w.heap.size, 0, none⟩ = some (.int .i64 (hiW v)) ∧ w'.cell? ⟨w.heap.size, 1, none⟩ = some (.int .u64 (loW v))) (first | go_keep | (refine ⟨(hb.cell (by simp)).trans ?_, (hb.cell (by simp)).trans ?_⟩ <;> simp)) ((go_at_call 162; refine (l02Int_other v _).mono ?_; rintro e w1 ⟨rfl, hb⟩))
    go_wp2
    go_ret2
    exact ⟨by simp [E0.out, E1.out], (by repeat (first | exact Below.refl _ _ | refine Below.drew ?_ | refine Below.setCell ?_ (by first | omega | (simp; done) | (simp; omega)) _ | refine Below.alloc ?_ (by first | omega | (simp; done) | (simp; omega)) _ | refine Below.trans ?_ (Below.mono (by assumption) (by first | omega | (simp; done) | (simp; omega)))))⟩
end Go.Proofs.Ytfikgbamnlmglaa
