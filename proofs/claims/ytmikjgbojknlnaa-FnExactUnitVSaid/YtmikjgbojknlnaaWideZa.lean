/- Contracts of the plainest functions on wide integers, program and model alike. Conditions: numbers are int64 or Wide. Contracts of negatives, complements, sums and int64 values of wide integers, program and model alike. Conditions: numbers are int64 or Wide. Contracts of products of wide integers, program and model alike. Conditions: numbers are int64 or uint64. Contracts of products of int64 as wide integers, program and model alike. Conditions: numbers are int64. -/
import Derived.Test.YtmikjgbojknlnaaBase
import Derived.Test.YtmikjgbojknlnaaNumZ
import Derived.Shelf.Spec.BitsCarry
import Derived.Deep.RegionHeld3
import Derived.Outline
namespace Go.Proofs.Ytmikjgbojknlnaa
open Go.ChangeShapes Go.WideShapes Go.ChangeAt Go.RowKit
set_option linter.unusedVariables false
set_option maxRecDepth 100000
set_option linter.unusedSimpArgs false
set_option maxHeartbeats 1000000


theorem l02Of_any (n : Int) (hn : In64 n) (w : World) : Calls Try.prog 216 #[.int .i64 n] w fun e w' =>
    e = .returned (.agg #[.int .i64 (hiW n), .int .u64 (loW n)]) ∧ Below w.heap.size w w' := by
  by_cases h : n < 0
  · have e1 := Lib.hid (hiW_neg hn h)
    go_enter Try.func216, Try.ntmps216
    go_wp2
    exact bodyPost_ret (v := .agg #[.int .i64 (-1), .int .u64 (IntKind.u64.wrap n)]) (by simp [results, Try.results216, go_sem]) rfl ⟨by rw [e1.out, wrapU], belB⟩
  · have e1 := Lib.hid (hiW_pos hn h)
    go_enter Try.func216, Try.ntmps216
    go_wp2
    exact bodyPost_ret (v := .agg #[.int .i64 0, .int .u64 (IntKind.u64.wrap n)]) (by simp [results, Try.results216, go_sem]) rfl ⟨by rw [e1.out, wrapU], belB⟩
theorem hi_shift {n : Int} (hn : In64 n) : n / 9223372036854775808 = hiW n := by
  unfold In64 at hn; unfold hiW B64; omega
theorem WideOf_any (n : Int) (hn : In64 n) (w : World) : Calls Try.prog 177 #[.int .i64 n] w fun e w' =>
    e = .returned (.agg #[.int .i64 (hiW n), .int .u64 (loW n)]) ∧ Below w.heap.size w w' := by
  have e1 := Lib.hid (hi_shift hn)
  go_enter Try.func177, Try.ntmps177
  go_wp2
  exact bodyPost_ret (v := .agg #[.int .i64 (n / 9223372036854775808), .int .u64 (IntKind.u64.wrap n)]) (by simp [results, Try.results177, go_sem]) rfl ⟨by rw [e1.out, wrapU], belB⟩
end Go.Proofs.Ytmikjgbojknlnaa
namespace Go.Proofs.Ytmikjgbojknlnaa
open Go.ChangeShapes Go.WideShapes Go.ChangeAt Go.RowKit
set_option linter.unusedVariables false
set_option maxRecDepth 100000
set_option linter.unusedSimpArgs false
set_option maxHeartbeats 1000000

theorem size_neg {n : Int} (hn : In64 n) (h : n < 0) : IntKind.u64.wrap (-IntKind.u64.wrap n) = (n.natAbs : Int) := by
  rw [wrapU, wrapU]; unfold In64 at hn; unfold loW B64; omega
theorem size_pos {n : Int} (hn : In64 n) (h : ¬ n < 0) : IntKind.u64.wrap n = (n.natAbs : Int) := by
  rw [wrapU]; unfold In64 at hn; unfold loW B64; omega
theorem l02Size_any (n : Int) (hn : In64 n) (w : World) : Calls Try.prog 168 #[.int .i64 n] w fun e w' =>
    e = .returned (.int .u64 (n.natAbs : Int)) ∧ w = w' := by
  by_cases h : n < 0
  · have e1 := Lib.hid (size_neg hn h)
    go_enter Try.func168, Try.ntmps168
    go_wp2
    go_ret
    exact ⟨by simp [e1.out], rfl⟩
  · have e1 := Lib.hid (size_pos hn h)
    go_enter Try.func168, Try.ntmps168
    go_wp2
    go_ret
    exact ⟨by simp [e1.out], rfl⟩
theorem l02Minus_any (v : Int) (hv : InW v) (w : World) : Calls Try.prog 169 #[.agg #[.int .i64 (hiW v), .int .u64 (loW v)]] w fun e w' =>
    e = .returned (.agg #[.int .i64 (hiW (negW v)), .int .u64 (loW (negW v))]) ∧ Below w.heap.size w w' := by
  have hh : In64 (hiW v) := hiW_in hv
  have hl := Lib.hid (not_i64 hh)
  by_cases e : loW v = 0
  · obtain ⟨e1, e2⟩ := neg_zero hv e
    have E1 := Lib.hid e1
    have E2 := Lib.hid e2
    have e0 : (loW v == 0) = true := by simpa using e
    have E := Lib.hid e
    clear e1 e2 e
    go_enter Try.func169, Try.ntmps169
    go_wp2
    exact bodyPost_ret (v := .agg #[.int .i64 (wrap64 (-hiW v)), .int .u64 (IntKind.u64.wrap (-loW v))]) (by simp [results, Try.results169, go_sem]) rfl ⟨by rw [E1.out, E2.out, E.out]; rfl, belB⟩
  · obtain ⟨e1, e2⟩ := neg_some hv e
    have E1 := Lib.hid e1
    have E2 := Lib.hid e2
    have e0 : (loW v == 0) = false := by simpa using e
    clear e1 e2 e
    go_enter Try.func169, Try.ntmps169
    go_wp2
    exact bodyPost_ret (v := .agg #[.int .i64 (bits BinOp.xor IntKind.i64 (-1) (hiW v)), .int .u64 (IntKind.u64.wrap (-loW v))]) (by simp [results, Try.results169, go_sem]) rfl ⟨by rw [E1.out, E2.out, hl.out, wrapU], belB⟩
/-- What is borrowed. -/
def borrowW (x y b : Int) : Int := if x < y + b then 1 else 0
theorem borrow_01 (x y b : Int) : borrowW x y b = 0 ∨ borrowW x y b = 1 := by unfold borrowW; split <;> simp
theorem sub64_law (x y b : Int) (hx : InU x) (hy : InU y) (hb : b = 0 ∨ b = 1) (w : World) :
    (callFunc 218 #[.int .u64 x, .int .u64 y, .int .u64 b]).run Try.prog w = .ok (.value (.tuple #[.int .u64 (loW (x - y - b)), .int .u64 (borrowW x y b)])) w := by
  obtain ⟨X, rfl⟩ : ∃ X : Nat, x = X := ⟨x.toNat, by unfold InU at hx; omega⟩
  obtain ⟨Y, rfl⟩ : ∃ Y : Nat, y = Y := ⟨y.toNat, by unfold InU at hy; omega⟩
  obtain ⟨B, rfl, hB⟩ : ∃ B : Nat, b = B ∧ B ≤ 1 := ⟨b.toNat, by omega, by omega⟩
  unfold InU at hx hy
  rw [run_callFunc_extern Try.func218 (by kernel_rfl) (by kernel_rfl) (by kernel_rfl) (e := sub64Entry) (by kernel_rfl), run_sub64 X Y B hB]
  simp only [Result.andThen]
  have e1 : (((X + 18446744073709551616 - Y - B) % 18446744073709551616 : Nat) : Int) = loW ((X : Int) - Y - B) := by unfold loW B64; omega
  have e2 : ((if X < Y + B then 1 else 0 : Nat) : Int) = borrowW X Y B := by
    unfold borrowW
    by_cases h : X < Y + B
    · rw [if_pos h, if_pos (by omega)]; rfl
    · rw [if_neg h, if_neg (by omega)]; rfl
  rw [e1, e2]
theorem neg_sub {v : Int} (hv : InW v) : wrap64 (loW (-loW (hiW v) - borrowW 0 (loW v) 0)) = hiW (negW v) ∧ loW (-loW v) = loW (negW v) := by
  rw [wrap64_def]; unfold InW at hv; unfold borrowW negW loW hiW B64
  split <;> split <;> omega
theorem negative_any (v : Int) (hv : InW v) (w : World) : Calls Try.prog 211 #[.agg #[.int .i64 (hiW v), .int .u64 (loW v)]] w fun e w' =>
    e = .returned (.agg #[.int .i64 (hiW (negW v)), .int .u64 (loW (negW v))]) ∧ Below w.heap.size w w' := by
  obtain ⟨e1, e2⟩ := neg_sub hv
  have E1 := Lib.hid e1
  have E2 := Lib.hid e2
  clear e1 e2
  go_enter Try.func211, Try.ntmps211
  go_wp2_with fail
  rw [sub64_law 0 (loW v) 0 (by unfold InU; omega) (loW_in v) (.inl rfl)]
  go_wp2_with fail
  rw [wrapU, sub64_law 0 (loW (hiW v)) (borrowW 0 (loW v) 0) (by unfold InU; omega) (loW_in _) (borrow_01 _ _ _)]
  go_wp2
  exact bodyPost_ret (v := .agg #[.int .i64 (wrap64 (loW (-loW (hiW v) - borrowW 0 (loW v) 0))), .int .u64 (loW (-loW v))]) (by simp [results, Try.results211, go_sem]) rfl ⟨by rw [E1.out, E2.out], belB⟩
theorem l02Plus_any (u v : Int) (hu : InW u) (hv : InW v) (w : World) : Calls Try.prog 167 #[.agg #[.int .i64 (hiW u), .int .u64 (loW u)], .agg #[.int .i64 (hiW v), .int .u64 (loW v)]] w fun e w' =>
    e = .returned (.agg #[.int .i64 (hiW (addW u v)), .int .u64 (loW (addW u v))]) ∧ Below w.heap.size w w' := by
  by_cases c : loW (loW u + loW v) < loW u
  · obtain ⟨e1, e2⟩ := add_carry hu hv c
    have E1 := Lib.hid e1
    have E2 := Lib.hid e2
    have c0 : IntKind.u64.wrap (loW u + loW v) < loW u := by rw [wrapU]; exact c
    clear e1 e2 c
    go_enter Try.func167, Try.ntmps167
    go_wp2
    exact bodyPost_ret (v := .agg #[.int .i64 (wrap64 (wrap64 (hiW u + hiW v) + 1)), .int .u64 (IntKind.u64.wrap (loW u + loW v))]) (by simp [results, Try.results167, go_sem]) rfl ⟨by rw [E1.out, E2.out, wrapU], belB⟩
  · obtain ⟨e1, e2⟩ := add_plain hu hv c
    have E1 := Lib.hid e1
    have E2 := Lib.hid e2
    have c0 : ¬ IntKind.u64.wrap (loW u + loW v) < loW u := by rw [wrapU]; exact c
    clear e1 e2 c
    go_enter Try.func167, Try.ntmps167
    go_wp2
    exact bodyPost_ret (v := .agg #[.int .i64 (wrap64 (hiW u + hiW v)), .int .u64 (IntKind.u64.wrap (loW u + loW v))]) (by simp [results, Try.results167, go_sem]) rfl ⟨by rw [E1.out, E2.out, wrapU], belB⟩
theorem complement_any (v : Int) (hv : InW v) (w : World) : Calls Try.prog 221 #[.agg #[.int .i64 (hiW v), .int .u64 (loW v)]] w fun e w' =>
    e = .returned (.agg #[.int .i64 (hiW (-1 - v)), .int .u64 (loW (-1 - v))]) ∧ Below w.heap.size w w' := by
  obtain ⟨e1, e2⟩ := compl_hl hv
  have E1 := Lib.hid (e1.trans (not_i64 (hiW_in hv)).symm)
  have E2 := Lib.hid (e2.trans (not_u64 (loW_in v)).symm)
  clear e1 e2
  go_enter Try.func221, Try.ntmps221
  go_wp2
  exact bodyPost_ret (v := .agg #[.int .i64 (bits BinOp.xor IntKind.i64 (-1) (hiW v)), .int .u64 (bits BinOp.xor IntKind.u64 IntKind.u64.max (loW v))]) (by simp [results, Try.results221, go_sem]) rfl ⟨by rw [E1.out, E2.out], belB⟩
theorem WideInt_back (v : Int) (h : In64 v) (w : World) : Calls Try.prog 177 #[.int .i64 (wrap64 (loW v))] w fun e w' =>
    e = .returned (.agg #[.int .i64 (hiW v), .int .u64 (loW v)]) ∧ Below w.heap.size w w' := by
  rw [lo_back h]; exact WideOf_any v h w
theorem WideInt_other (v : Int) (w : World) : Calls Try.prog 177 #[.int .i64 (wrap64 (loW v))] w fun e w' =>
    e = .returned (.agg #[.int .i64 (hiW (wrap64 (loW v))), .int .u64 (loW v)]) ∧ Below w.heap.size w w' :=
  (WideOf_any _ (in64_wrap _) w).mono fun e w' ⟨he, hb⟩ => ⟨by rw [he, lo_lo], hb⟩
theorem WideInt_any (v : Int) (hv : InW v) (w : World) : Calls Try.prog 172 #[.agg #[.int .i64 (hiW v), .int .u64 (loW v)]] w fun e w' =>
    e = .returned (.tuple #[.int .i64 (intW v), .bool (okW v)]) ∧ Below w.heap.size w w' := by
  by_cases h : In64 v
  · have E0 := Lib.hid (show intW v = v by unfold intW; rw [if_pos h])
    have E1 := Lib.hid (show okW v = true by unfold okW; exact decide_eq_true h)
    have E2 := Lib.hid (lo_back h)
    go_enter Try.func172, Try.ntmps172
    go_wp2_with fail
    go_region_held3 (fun w' => w'.cell? ⟨w.heap.size, 0, none⟩ = some (.int .i64 (hiW v)) ∧ w'.cell? ⟨w.heap.size, 1, none⟩ = some (.int .u64 (loW v))) (first | go_keep | (refine ⟨(hb.cell (by simp)).trans ?_, (hb.cell (by simp)).trans ?_⟩ <;> simp)) ((go_at_call 177; refine (WideInt_back v h _).mono ?_; rintro e w1 ⟨rfl, hb⟩))
    go_wp2
    go_ret2
    exact ⟨by simp [E0.out, E1.out, E2.out], belB⟩
  · have E0 := Lib.hid (show intW v = 0 by unfold intW; rw [if_neg h])
    have E1 := Lib.hid (show okW v = false by unfold okW; exact decide_eq_false h)
    have e2 := hi_other hv h
    have e3 : (hiW (wrap64 (loW v)) == hiW v) = false := by simpa using e2
    go_enter Try.func172, Try.ntmps172
    go_wp2_with fail
    go_region_held3 (fun w' => w'.cell? ⟨w.heap.size, 0, none⟩ = some (.int .i64 (hiW v)) ∧ w'.cell? ⟨w.heap.size, 1, none⟩ = some (.int .u64 (loW v))) (first | go_keep | (refine ⟨(hb.cell (by simp)).trans ?_, (hb.cell (by simp)).trans ?_⟩ <;> simp)) ((go_at_call 177; refine (WideInt_other v _).mono ?_; rintro e w1 ⟨rfl, hb⟩))
    go_wp2
    go_ret2
    exact ⟨by simp [E0.out, E1.out], belB⟩
theorem l02Int_back (v : Int) (h : In64 v) (w : World) : Calls Try.prog 216 #[.int .i64 (wrap64 (loW v))] w fun e w' =>
    e = .returned (.agg #[.int .i64 (hiW v), .int .u64 (loW v)]) ∧ Below w.heap.size w w' := by
  rw [lo_back h]; exact l02Of_any v h w
theorem l02Int_other (v : Int) (w : World) : Calls Try.prog 216 #[.int .i64 (wrap64 (loW v))] w fun e w' =>
    e = .returned (.agg #[.int .i64 (hiW (wrap64 (loW v))), .int .u64 (loW v)]) ∧ Below w.heap.size w w' :=
  (l02Of_any _ (in64_wrap _) w).mono fun e w' ⟨he, hb⟩ => ⟨by rw [he, lo_lo], hb⟩
theorem l02Int_any (v : Int) (hv : InW v) (w : World) : Calls Try.prog 206 #[.agg #[.int .i64 (hiW v), .int .u64 (loW v)]] w fun e w' =>
    e = .returned (.tuple #[.int .i64 (intW v), .bool (okW v)]) ∧ Below w.heap.size w w' := by
  by_cases h : In64 v
  · have E0 := Lib.hid (show intW v = v by unfold intW; rw [if_pos h])
    have E1 := Lib.hid (show okW v = true by unfold okW; exact decide_eq_true h)
    have E2 := Lib.hid (lo_back h)
    go_enter Try.func206, Try.ntmps206
    go_wp2_with fail
    go_region_held3 (fun w' => w'.cell? ⟨w.heap.size, 0, none⟩ = some (.int .i64 (hiW v)) ∧ w'.cell? ⟨w.heap.size, 1, none⟩ = some (.int .u64 (loW v))) (first | go_keep | (refine ⟨(hb.cell (by simp)).trans ?_, (hb.cell (by simp)).trans ?_⟩ <;> simp)) ((go_at_call 216; refine (l02Int_back v h _).mono ?_; rintro e w1 ⟨rfl, hb⟩))
    go_wp2
    go_ret2
    exact ⟨by simp [E0.out, E1.out, E2.out], belB⟩
  · have E0 := Lib.hid (show intW v = 0 by unfold intW; rw [if_neg h])
    have E1 := Lib.hid (show okW v = false by unfold okW; exact decide_eq_false h)
    have e2 := hi_other hv h
    have e3 : (hiW (wrap64 (loW v)) == hiW v) = false := by simpa using e2
    go_enter Try.func206, Try.ntmps206
    go_wp2_with fail
    go_region_held3 (fun w' => w'.cell? ⟨w.heap.size, 0, none⟩ = some (.int .i64 (hiW v)) ∧ w'.cell? ⟨w.heap.size, 1, none⟩ = some (.int .u64 (loW v))) (first | go_keep | (refine ⟨(hb.cell (by simp)).trans ?_, (hb.cell (by simp)).trans ?_⟩ <;> simp)) ((go_at_call 216; refine (l02Int_other v _).mono ?_; rintro e w1 ⟨rfl, hb⟩))
    go_wp2
    go_ret2
    exact ⟨by simp [E0.out, E1.out], belB⟩
end Go.Proofs.Ytmikjgbojknlnaa
namespace Go.Proofs.Ytmikjgbojknlnaa
open Go.ChangeShapes Go.WideShapes Go.ChangeAt Go.RowKit
set_option linter.unusedVariables false
set_option maxRecDepth 100000
set_option linter.unusedSimpArgs false
set_option maxHeartbeats 1000000

set_option maxHeartbeats 1000000 in
theorem Mul64_nat (x y : Nat) (hx : x < 18446744073709551616) (hy : y < 18446744073709551616) (w : World) :
    Calls Try.prog 199 #[.int .u64 x, .int .u64 y] w fun e w' => e = .returned (.tuple #[.int .u64 ((x * y / 18446744073709551616 : Nat) : Int), .int .u64 ((x * y % 18446744073709551616 : Nat) : Int)]) ∧ w = w' := by
  obtain ⟨bd, bt, bw, hhi⟩ := Lib.mul64_hi x y hx hy
  have ba := Lib.half_mul_le (a := x / 4294967296) (b := y / 4294967296) (by omega) (by omega)
  have bb := Lib.half_mul_le (a := x / 4294967296) (b := y % 4294967296) (by omega) (by omega)
  have bc := Lib.half_mul_le (a := x % 4294967296) (b := y / 4294967296) (by omega) (by omega)
  have ba' : x / 4294967296 * (y / 4294967296) < 18446744073709551616 := by omega
  have bb' : x / 4294967296 * (y % 4294967296) < 18446744073709551616 := by omega
  have bc' : x % 4294967296 * (y / 4294967296) < 18446744073709551616 := by omega
  have bh1 : x / 4294967296 * (y / 4294967296) + (x / 4294967296 * (y % 4294967296) + x % 4294967296 * (y % 4294967296) / 4294967296) / 4294967296 < 18446744073709551616 := by omega
  have bh : x / 4294967296 * (y / 4294967296) + (x / 4294967296 * (y % 4294967296) + x % 4294967296 * (y % 4294967296) / 4294967296) / 4294967296 + ((x / 4294967296 * (y % 4294967296) + x % 4294967296 * (y % 4294967296) / 4294967296) % 4294967296 + x % 4294967296 * (y / 4294967296)) / 4294967296 < 18446744073709551616 := by omega
  go_enter Try.func199, Try.ntmps199
  go_wp2
  simp only [Mul64.maskN x hx, Mul64.maskN y hy, Mul64.divN, Mul64.mulN, Mul64.addN, Mul64.wrapN _ bd, Mul64.wrapN _ bb', Mul64.wrapN _ bt, Mul64.maskN _ bt, Mul64.wrapN _ bc', Mul64.wrapN _ bw, Mul64.wrapN _ ba', Mul64.wrapN _ bh1, Mul64.wrapN _ bh, Mul64.wrapM (x * y)]
  rw [hhi]
  go_ret2
  exact ⟨rfl, rfl⟩
theorem Mul64_any (x y : Int) (hx : InU x) (hy : InU y) (w : World) :
    Calls Try.prog 199 #[.int .u64 x, .int .u64 y] w fun e w' => e = .returned (.tuple #[.int .u64 (hiW (x * y)), .int .u64 (loW (x * y))]) ∧ w = w' := by
  obtain ⟨X, rfl⟩ : ∃ X : Nat, x = X := ⟨x.toNat, by unfold InU at hx; omega⟩
  obtain ⟨Y, rfl⟩ : ∃ Y : Nat, y = Y := ⟨y.toNat, by unfold InU at hy; omega⟩
  unfold InU at hx hy
  refine (Mul64_nat X Y (by omega) (by omega) w).mono fun e w' ⟨he, hw⟩ => ⟨?_, hw⟩
  rw [he]
  rfl
set_option maxHeartbeats 1000000 in
theorem l02Times_nat (x y : Nat) (hx : x < 18446744073709551616) (hy : y < 18446744073709551616) (w : World) :
    Calls Try.prog 166 #[.int .u64 x, .int .u64 y] w fun e w' => e = .returned (.tuple #[.int .u64 ((x * y / 18446744073709551616 : Nat) : Int), .int .u64 ((x * y % 18446744073709551616 : Nat) : Int)]) ∧ w = w' := by
  obtain ⟨bd, bt, bw', hhi'⟩ := Lib.mul64_hi x y hx hy
  have ba := Lib.half_mul_le (a := x / 4294967296) (b := y / 4294967296) (by omega) (by omega)
  have bb := Lib.half_mul_le (a := x / 4294967296) (b := y % 4294967296) (by omega) (by omega)
  have bc := Lib.half_mul_le (a := x % 4294967296) (b := y / 4294967296) (by omega) (by omega)
  have ba' : x / 4294967296 * (y / 4294967296) < 18446744073709551616 := by omega
  have bb' : x / 4294967296 * (y % 4294967296) < 18446744073709551616 := by omega
  have bc' : x % 4294967296 * (y / 4294967296) < 18446744073709551616 := by omega
  have bw : x % 4294967296 * (y / 4294967296) + (x / 4294967296 * (y % 4294967296) + x % 4294967296 * (y % 4294967296) / 4294967296) % 4294967296 < 18446744073709551616 := by omega
  have hhi : x / 4294967296 * (y / 4294967296) + (x / 4294967296 * (y % 4294967296) + x % 4294967296 * (y % 4294967296) / 4294967296) / 4294967296 + (x % 4294967296 * (y / 4294967296) + (x / 4294967296 * (y % 4294967296) + x % 4294967296 * (y % 4294967296) / 4294967296) % 4294967296) / 4294967296 = x * y / 18446744073709551616 := by
    rw [← hhi', Nat.add_comm (x % 4294967296 * (y / 4294967296))]
  have bh1 : x / 4294967296 * (y / 4294967296) + (x / 4294967296 * (y % 4294967296) + x % 4294967296 * (y % 4294967296) / 4294967296) / 4294967296 < 18446744073709551616 := by omega
  have bh : x / 4294967296 * (y / 4294967296) + (x / 4294967296 * (y % 4294967296) + x % 4294967296 * (y % 4294967296) / 4294967296) / 4294967296 + (x % 4294967296 * (y / 4294967296) + (x / 4294967296 * (y % 4294967296) + x % 4294967296 * (y % 4294967296) / 4294967296) % 4294967296) / 4294967296 < 18446744073709551616 := by omega
  clear hhi'
  go_enter Try.func166, Try.ntmps166
  go_wp2
  simp only [Mul64.maskN x hx, Mul64.maskN y hy, Mul64.divN, Mul64.mulN, Mul64.addN, Mul64.wrapN _ bd, Mul64.wrapN _ bb', Mul64.wrapN _ bt, Mul64.maskN _ bt, Mul64.wrapN _ bc', Mul64.wrapN _ bw, Mul64.wrapN _ ba', Mul64.wrapN _ bh1, Mul64.wrapN _ bh, Mul64.wrapM (x * y)]
  rw [hhi]
  go_ret2
  exact ⟨rfl, rfl⟩
theorem l02Times_any (x y : Int) (hx : InU x) (hy : InU y) (w : World) :
    Calls Try.prog 166 #[.int .u64 x, .int .u64 y] w fun e w' => e = .returned (.tuple #[.int .u64 (hiW (x * y)), .int .u64 (loW (x * y))]) ∧ w = w' := by
  obtain ⟨X, rfl⟩ : ∃ X : Nat, x = X := ⟨x.toNat, by unfold InU at hx; omega⟩
  obtain ⟨Y, rfl⟩ : ∃ Y : Nat, y = Y := ⟨y.toNat, by unfold InU at hy; omega⟩
  unfold InU at hx hy
  refine (l02Times_nat X Y (by omega) (by omega) w).mono fun e w' ⟨he, hw⟩ => ⟨?_, hw⟩
  rw [he]
  rfl
end Go.Proofs.Ytmikjgbojknlnaa
namespace Go.Proofs.Ytmikjgbojknlnaa
open Go.ChangeShapes Go.WideShapes Go.ChangeAt Go.RowKit
set_option linter.unusedVariables false
set_option maxRecDepth 100000
set_option linter.unusedSimpArgs false
set_option maxHeartbeats 1000000

theorem size_inU {a : Int} (ha : In64 a) : InU (a.natAbs : Int) := by unfold In64 at ha; unfold InU; omega
theorem l02Times_abs (a b : Int) (ha : In64 a) (hb : In64 b) (w : World) :
    Calls Try.prog 166 #[.int .u64 (a.natAbs : Int), .int .u64 (b.natAbs : Int)] w fun e w' => e = .returned (.tuple #[.int .u64 (hiW (absMul a b)), .int .u64 (loW (absMul a b))]) ∧ w = w' :=
  l02Times_any _ _ (size_inU ha) (size_inU hb) w
theorem l02Mul_any (a b : Int) (ha : In64 a) (hb : In64 b) (w : World) : Calls Try.prog 129 #[.int .i64 a, .int .i64 b] w fun e w' =>
    e = .returned (.agg #[.int .i64 (hiW (a * b)), .int .u64 (loW (a * b))]) ∧ Below w.heap.size w w' := by
  have E0 := Lib.hid (absMul_hi ha hb)
  by_cases s : (a < 0) = (b < 0)
  · have E1 := Lib.hid (show absMul a b = a * b from abs_mul_same s)
    have s0 : (!(decide (a < 0) == decide (b < 0))) = false := by simp [s]
    clear s
    go_enter Try.func129, Try.ntmps129
    go_wp2_with fail
    refine (l02Size_any a ha _).mono ?_
    rintro e w1 ⟨rfl, rfl⟩
    go_wp2_with fail
    refine (l02Size_any b hb _).mono ?_
    rintro e w1 ⟨rfl, rfl⟩
    go_wp2_with fail
    refine (l02Times_abs a b ha hb _).mono ?_
    rintro e w1 ⟨rfl, rfl⟩
    go_wp2
    exact bodyPost_ret (v := .agg #[.int .i64 (wrap64 (hiW (absMul a b))), .int .u64 (loW (absMul a b))]) (by simp [results, Try.results129, go_sem]) rfl ⟨by rw [E0.out, E1.out], belB⟩
  · have E1 := Lib.hid (neg_absMul ha hb s)
    have s0 : (!(decide (a < 0) == decide (b < 0))) = true := by
      by_cases h1 : a < 0 <;> by_cases h2 : b < 0 <;> simp_all
    clear s
    go_enter Try.func129, Try.ntmps129
    go_wp2_with fail
    refine (l02Size_any a ha _).mono ?_
    rintro e w1 ⟨rfl, rfl⟩
    go_wp2_with fail
    refine (l02Size_any b hb _).mono ?_
    rintro e w1 ⟨rfl, rfl⟩
    go_wp2_with fail
    refine (l02Times_abs a b ha hb _).mono ?_
    rintro e w1 ⟨rfl, rfl⟩
    go_wp2_with fail
    rw [E0.out]
    refine (l02Minus_any (absMul a b) (absMul_inW ha hb) _).mono ?_
    rintro e w2 ⟨rfl, hb2⟩
    have hs2 : _ ≤ w2.heap.size := hb2.size
    try simp at hs2
    rw [E1.out]
    obtain ⟨hc2, hf2⟩ := old_kept hb2; have hz2 : w.heap.size + 1 < w2.heap.size := Nat.lt_of_lt_of_le (by first | omega | (simp; done) | (simp; omega)) hb2.size; have hz2a : w.heap.size < w2.heap.size := Nat.lt_of_lt_of_le (by first | omega | (simp; done) | (simp; omega)) hb2.size
    have k20 := hc2 (w.heap.size) 0 (by first | assumption | omega | (simp; done) | (simp; omega)); have k21 := hc2 (w.heap.size) 1 (by first | assumption | omega | (simp; done) | (simp; omega))
    go_wp2
    exact bodyPost_ret (v := .agg #[.int .i64 (hiW (a * b)), .int .u64 (loW (a * b))]) (by simp [results, Try.results129, go_sem, k20, k21]) rfl ⟨rfl, belB⟩
theorem WideMul_any (a b : Int) (ha : In64 a) (hb : In64 b) (w : World) : Calls Try.prog 175 #[.int .i64 a, .int .i64 b] w fun e w' =>
    e = .returned (.agg #[.int .i64 (hiW (a * b)), .int .u64 (loW (a * b))]) ∧ Below w.heap.size w w' := by
  by_cases sa : a < 0
  · by_cases sb : b < 0
    · obtain ⟨e1, e2⟩ := mulhi_nn ha hb sa sb
      have E1 := Lib.hid e1
      have E2 := Lib.hid e2
      clear e1 e2
      go_enter Try.func175, Try.ntmps175
      go_wp2_with fail
      rw [wrapU, wrapU]
      refine (Mul64_any (loW a) (loW b) (loW_in a) (loW_in b) _).mono ?_
      rintro e w1 ⟨rfl, rfl⟩
      go_wp2
      exact bodyPost_ret (v := .agg #[.int .i64 (wrap64 (IntKind.u64.wrap (IntKind.u64.wrap (hiW (loW a * loW b) - IntKind.u64.wrap b) - IntKind.u64.wrap a))), .int .u64 (loW (loW a * loW b))]) (by simp [results, Try.results175, go_sem]) rfl ⟨by simp only [wrapU, E1.out, E2.out], belB⟩
    · obtain ⟨e1, e2⟩ := mulhi_np ha hb sa sb
      have E1 := Lib.hid e1
      have E2 := Lib.hid e2
      clear e1 e2
      go_enter Try.func175, Try.ntmps175
      go_wp2_with fail
      rw [wrapU, wrapU]
      refine (Mul64_any (loW a) (loW b) (loW_in a) (loW_in b) _).mono ?_
      rintro e w1 ⟨rfl, rfl⟩
      go_wp2
      exact bodyPost_ret (v := .agg #[.int .i64 (wrap64 (IntKind.u64.wrap (hiW (loW a * loW b) - IntKind.u64.wrap b))), .int .u64 (loW (loW a * loW b))]) (by simp [results, Try.results175, go_sem]) rfl ⟨by simp only [wrapU, E1.out, E2.out], belB⟩
  · by_cases sb : b < 0
    · obtain ⟨e1, e2⟩ := mulhi_pn ha hb sa sb
      have E1 := Lib.hid e1
      have E2 := Lib.hid e2
      clear e1 e2
      go_enter Try.func175, Try.ntmps175
      go_wp2_with fail
      rw [wrapU, wrapU]
      refine (Mul64_any (loW a) (loW b) (loW_in a) (loW_in b) _).mono ?_
      rintro e w1 ⟨rfl, rfl⟩
      go_wp2
      exact bodyPost_ret (v := .agg #[.int .i64 (wrap64 (IntKind.u64.wrap (hiW (loW a * loW b) - IntKind.u64.wrap a))), .int .u64 (loW (loW a * loW b))]) (by simp [results, Try.results175, go_sem]) rfl ⟨by simp only [wrapU, E1.out, E2.out], belB⟩
    · obtain ⟨e1, e2⟩ := mulhi_pp ha hb sa sb
      have E1 := Lib.hid e1
      have E2 := Lib.hid e2
      clear e1 e2
      go_enter Try.func175, Try.ntmps175
      go_wp2_with fail
      rw [wrapU, wrapU]
      refine (Mul64_any (loW a) (loW b) (loW_in a) (loW_in b) _).mono ?_
      rintro e w1 ⟨rfl, rfl⟩
      go_wp2
      exact bodyPost_ret (v := .agg #[.int .i64 (wrap64 (hiW (loW a * loW b))), .int .u64 (loW (loW a * loW b))]) (by simp [results, Try.results175, go_sem]) rfl ⟨by rw [E1.out, E2.out], belB⟩
end Go.Proofs.Ytmikjgbojknlnaa
