/- The laws of WideInt, WideMul, WideShift and WideCompare: the program answers as the model at every argument. No conditions but that the numbers are of their types. -/
import Derived.Test.YtnfkddaigfjigabWideE
namespace Go.Proofs.Ytnfkddaigfjigab
open Go.ChangeShapes Go.WideShapes Go.ChangeAt Go.RowKit
set_option linter.unusedVariables false

theorem law_WideInt (h l : Int) (hh : In64 h) (hl : InU l) (w : World) : Calls Try.prog 3 #[.agg #[.int .i64 h, .int .u64 l]] w fun e w' =>
    e = .returned (.bool true) ∧ Below w.heap.size w w' := by
  obtain ⟨v, hv, rfl, rfl⟩ := of_halves h l hh hl
  go_enter Try.func3, Try.ntmps3
  go_wp2_with fail
  refine (toWide_any _ _ _).mono ?_
  rintro e w1 ⟨rfl, hb1⟩
  have hs1 : _ ≤ w1.heap.size := hb1.size
  try simp at hs1
  obtain ⟨hc1, hf1⟩ := old_kept hb1; have hz1 : w.heap.size < w1.heap.size := Nat.lt_of_lt_of_le (by first | omega | (simp; done) | (simp; omega)) hb1.size
  go_wp2_with fail
  refine (sWideInt_any v hv _).mono ?_
  rintro e w2 ⟨rfl, hb2⟩
  have hs2 : _ ≤ w2.heap.size := hb2.size
  try simp at hs2
  obtain ⟨hc2, hf2⟩ := old_kept hb2; have hz2 : w.heap.size < w2.heap.size := Nat.lt_of_lt_of_le (by first | omega | (simp; done) | (simp; omega)) hb2.size
  go_wp2_with fail
  refine (toWide_any _ _ _).mono ?_
  rintro e w3 ⟨rfl, hb3⟩
  have hs3 : _ ≤ w3.heap.size := hb3.size
  try simp at hs3
  go_wp2_with fail
  refine (WideInt_any v hv _).mono ?_
  rintro e w4 ⟨rfl, hb4⟩
  have hs4 : _ ≤ w4.heap.size := hb4.size
  try simp at hs4
  go_wp2
  go_ret
  exact ⟨rfl, (by repeat (first | exact Below.refl _ _ | refine Below.drew ?_ | refine Below.setCell ?_ (by first | omega | (simp; done) | (simp; omega)) _ | refine Below.alloc ?_ (by first | omega | (simp; done) | (simp; omega)) _ | refine Below.trans ?_ (Below.mono (by assumption) (by first | omega | (simp; done) | (simp; omega)))))⟩
theorem law_WideMul (a b : Int) (ha : In64 a) (hb : In64 b) (w : World) : Calls Try.prog 4 #[.int .i64 a, .int .i64 b] w fun e w' =>
    e = .returned (.bool true) ∧ Below w.heap.size w w' := by
  go_enter Try.func4, Try.ntmps4
  go_wp2_with fail
  refine (sWideMul_any a b ha hb _).mono ?_
  rintro e w1 ⟨rfl, hb1⟩
  have hs1 : _ ≤ w1.heap.size := hb1.size
  try simp at hs1
  go_wp2_with fail
  refine (WideMul_any a b ha hb _).mono ?_
  rintro e w2 ⟨rfl, hb2⟩
  have hs2 : _ ≤ w2.heap.size := hb2.size
  try simp at hs2
  obtain ⟨hc2, hf2⟩ := old_kept hb2; have hz2 : w1.heap.size < w2.heap.size := Nat.lt_of_lt_of_le (by first | omega | (simp; done) | (simp; omega)) hb2.size
  go_wp2_with fail
  refine (eqWide_same _ _ _).mono ?_
  rintro e w3 ⟨rfl, hb3⟩
  have hs3 : _ ≤ w3.heap.size := hb3.size
  try simp at hs3
  go_wp2
  go_ret
  exact ⟨rfl, (by repeat (first | exact Below.refl _ _ | refine Below.drew ?_ | refine Below.setCell ?_ (by first | omega | (simp; done) | (simp; omega)) _ | refine Below.alloc ?_ (by first | omega | (simp; done) | (simp; omega)) _ | refine Below.trans ?_ (Below.mono (by assumption) (by first | omega | (simp; done) | (simp; omega)))))⟩
theorem law_WideShift (h l n : Int) (hh : In64 h) (hl : InU l) (hn : In64 n) (w : World) : Calls Try.prog 8 #[.agg #[.int .i64 h, .int .u64 l], .int .i64 n] w fun e w' =>
    e = .returned (.bool true) ∧ Below w.heap.size w w' := by
  obtain ⟨v, hv, rfl, rfl⟩ := of_halves h l hh hl
  go_enter Try.func8, Try.ntmps8
  go_wp2_with fail
  refine (toWide_any _ _ _).mono ?_
  rintro e w1 ⟨rfl, hb1⟩
  have hs1 : _ ≤ w1.heap.size := hb1.size
  try simp at hs1
  obtain ⟨hc1, hf1⟩ := old_kept hb1; have hz1 : w.heap.size < w1.heap.size := Nat.lt_of_lt_of_le (by first | omega | (simp; done) | (simp; omega)) hb1.size
  go_wp2_with fail
  refine (sWideShift_any v n hv hn _).mono ?_
  rintro e w2 ⟨rfl, hb2⟩
  have hs2 : _ ≤ w2.heap.size := hb2.size
  try simp at hs2
  obtain ⟨hc2, hf2⟩ := old_kept hb2; have hz2 : w.heap.size < w2.heap.size := Nat.lt_of_lt_of_le (by first | omega | (simp; done) | (simp; omega)) hb2.size
  go_wp2_with fail
  refine (toWide_any _ _ _).mono ?_
  rintro e w3 ⟨rfl, hb3⟩
  have hs3 : _ ≤ w3.heap.size := hb3.size
  try simp at hs3
  obtain ⟨hc3, hf3⟩ := old_kept hb3; have hz3 : w2.heap.size < w3.heap.size := Nat.lt_of_lt_of_le (by first | omega | (simp; done) | (simp; omega)) hb3.size
  go_wp2_with fail
  refine (WideShift_any v n hv hn _).mono ?_
  rintro e w4 ⟨rfl, hb4⟩
  have hs4 : _ ≤ w4.heap.size := hb4.size
  try simp at hs4
  obtain ⟨hc4, hf4⟩ := old_kept hb4; have hz4 : w2.heap.size < w4.heap.size := Nat.lt_of_lt_of_le (by first | omega | (simp; done) | (simp; omega)) hb4.size
  go_wp2_with fail
  refine (eqWide_same _ _ _).mono ?_
  rintro e w5 ⟨rfl, hb5⟩
  have hs5 : _ ≤ w5.heap.size := hb5.size
  try simp at hs5
  go_wp2
  go_ret
  exact ⟨rfl, (by repeat (first | exact Below.refl _ _ | refine Below.drew ?_ | refine Below.setCell ?_ (by first | omega | (simp; done) | (simp; omega)) _ | refine Below.alloc ?_ (by first | omega | (simp; done) | (simp; omega)) _ | refine Below.trans ?_ (Below.mono (by assumption) (by first | omega | (simp; done) | (simp; omega)))))⟩
theorem law_WideCompare (h l g m : Int) (w : World) : Calls Try.prog 7 #[.agg #[.int .i64 h, .int .u64 l], .agg #[.int .i64 g, .int .u64 m]] w fun e w' =>
    e = .returned (.bool true) ∧ Below w.heap.size w w' := by
  go_enter Try.func7, Try.ntmps7
  go_wp2_with fail
  go_region_held3 (fun w' => w'.cell? ⟨w.heap.size, 0, none⟩ = some (.int .i64 h) ∧ w'.cell? ⟨w.heap.size, 1, none⟩ = some (.int .u64 l) ∧ w'.cell? ⟨w.heap.size + 1, 0, none⟩ = some (.int .i64 g) ∧ w'.cell? ⟨w.heap.size + 1, 1, none⟩ = some (.int .u64 m)) (first | go_keep | (refine ⟨(hb.cell (by first | omega | (simp; done) | (simp; omega))).trans ?_, (hb.cell (by first | omega | (simp; done) | (simp; omega))).trans ?_, (hb.cell (by first | omega | (simp; done) | (simp; omega))).trans ?_, (hb.cell (by first | omega | (simp; done) | (simp; omega))).trans ?_⟩ <;> first | assumption | (simp; done) | (simp [*]; done))) (first | (go_at_call 15; refine (toWide_any _ _ _).mono ?_; rintro e w1 ⟨rfl, hb⟩; have hs : _ ≤ w1.heap.size := hb.size; try simp at hs) | (go_at_call 24; refine (sWideCompare_any h l g m _).mono ?_; rintro e w1 ⟨rfl, hb⟩; have hs : _ ≤ w1.heap.size := hb.size; try simp at hs))
  go_wp2_with fail
  go_region_held3 (fun w' => w'.cell? ⟨w.heap.size, 0, none⟩ = some (.int .i64 h) ∧ w'.cell? ⟨w.heap.size, 1, none⟩ = some (.int .u64 l) ∧ w'.cell? ⟨w.heap.size + 1, 0, none⟩ = some (.int .i64 g) ∧ w'.cell? ⟨w.heap.size + 1, 1, none⟩ = some (.int .u64 m)) (first | go_keep | (refine ⟨(hb.cell (by first | omega | (simp; done) | (simp; omega))).trans ?_, (hb.cell (by first | omega | (simp; done) | (simp; omega))).trans ?_, (hb.cell (by first | omega | (simp; done) | (simp; omega))).trans ?_, (hb.cell (by first | omega | (simp; done) | (simp; omega))).trans ?_⟩ <;> first | assumption | (simp; done) | (simp [*]; done))) (first | (go_at_call 15; refine (toWide_any _ _ _).mono ?_; rintro e w1 ⟨rfl, hb⟩; have hs : _ ≤ w1.heap.size := hb.size; try simp at hs) | (go_at_call 25; refine (WideCompare_any h l g m _).mono ?_; rintro e w1 ⟨rfl, hb⟩; have hs : _ ≤ w1.heap.size := hb.size; try simp at hs))
  go_wp2
  go_ret
  exact ⟨rfl, (by repeat (first | exact Below.refl _ _ | refine Below.drew ?_ | refine Below.setCell ?_ (by first | omega | (simp; done) | (simp; omega)) _ | refine Below.alloc ?_ (by first | omega | (simp; done) | (simp; omega)) _ | refine Below.trans ?_ (Below.mono (by assumption) (by first | omega | (simp; done) | (simp; omega)))))⟩
end Go.Proofs.Ytnfkddaigfjigab
