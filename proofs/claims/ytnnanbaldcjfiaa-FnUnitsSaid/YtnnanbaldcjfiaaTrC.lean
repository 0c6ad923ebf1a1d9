/- Contracts of units, program and model. Conditions: numbers are int64. -/
import Derived.Test.YtnnanbaldcjfiaaTrB
import Derived.Outline
namespace Go.Proofs.Ytnnanbaldcjfiaa
open Go.ChangeShapes Go.WideShapes Go.ChangeAt Go.RowKit
set_option linter.unusedVariables false
set_option maxRecDepth 100000
set_option linter.unusedSimpArgs false
set_option maxHeartbeats 1000000
set_option maxHeartbeats 8000000 in
theorem UnitsOf_any (x : Iv) (w : World) : Calls Try.prog 42 #[.agg #[.int .i64 x.1, .int .i64 x.2]] w fun e w' =>
    e = .returned (.tuple #[.int .i64 (unL x), .int .i64 (unH x), .bool (unK x)]) ∧ Below w.heap.size w w' := by
  have C := Lib.hid (fun w => IsWhole_any x w)
  by_cases h : Bnd x
  · have B := Lib.hid (show (!bnd x) = false by rw [bnd_yes h]; rfl)
    have b := h
    unfold Bnd at b
    have u1 := unB_in (n := x.1) (by omega) (by omega)
    have u2 := unB_in (n := -x.2) (by omega) (by omega)
    have N : IntKind.i64.wrap (-x.2) = -x.2 := wrapS (by unfold In64; omega)
    have L := Lib.hid (fun w => unitsBelow_any x.1 (by omega) (by omega) w)
    have H := Lib.hid (fun w => unitsBelow_any (-x.2) (by omega) (by omega) w)
    have K := Lib.hid (show UnOk x ↔ (-36000000000 ≤ unB x.1 ∧ -unB (-x.2) ≤ 36000000000) from ⟨fun k => k.2, fun k => ⟨h, k⟩⟩)
    have Y := Lib.hid (fun k => un_yes (x := x) k)
    have Z := Lib.hid (fun k => un_no (x := x) k)
    have b2 : -9223372036854775807 ≤ x.2 := by omega
    have b3 : x.2 ≤ 9223372036854775807 := by omega
    clear h b
    generalize unB x.1 = l at *
    generalize unB (-x.2) = g at *
    generalize unL x = a1 at *
    generalize unH x = a2 at *
    generalize unK x = a3 at *
    obtain ⟨u10, u11⟩ := u1
    obtain ⟨u20, u21⟩ := u2
    have N2 := Lib.hid (show IntKind.i64.wrap (-g) = -g from wrapS (by unfold In64; omega))
    go_enter Try.func42, Try.ntmps42
    go_wp2_with fail
    refine (C.out _).mono ?_
    rintro e w1 ⟨rfl, hb1⟩
    have hs1 : _ ≤ w1.heap.size := hb1.size
    try simp at hs1
    rw [B.out]
    have o_xa10 : Own (w1) (w.heap.size) 0 (.int .i64 x.1) := ownJ; obtain ⟨xa10, f_xa10⟩ := o_xa10; have o_xa11 : Own (w1) (w.heap.size) 1 (.int .i64 x.2) := ownJ; obtain ⟨xa11, f_xa11⟩ := o_xa11
    go_wp2_with fail
    obtain ⟨hlt2, hlt3, hlt4, hlt5, hlt6, hlt7, hlt8, hlt9, hlt10, hlt11⟩ := below_add; go_region_held3 (fun w' => w'.cell? ⟨w.heap.size, 0, none⟩ = some (.int .i64 x.1) ∧ w'.cell? ⟨w.heap.size, 1, none⟩ = some (.int .i64 x.2)) (first | (with_reducible exact ((And.imp (cell_kept (by assumption)) (cell_kept (by assumption))) (by assumption))) | (with_reducible exact ((And.imp (cell_alloc) (cell_alloc)) (by assumption))) | (with_reducible exact ((And.imp (fun h => cell_far (by first | (simp; done) | (simp; omega)) (cell_far (by first | (simp; done) | (simp; omega)) h)) (fun h => cell_far (by first | (simp; done) | (simp; omega)) (cell_far (by first | (simp; done) | (simp; omega)) h))) (by assumption))) | (refine ⟨?_, ?_⟩ <;> repeat (first | (with_reducible assumption) | (with_reducible refine cell_far (by first | (simp; done) | (simp; omega)) ?_) | (with_reducible refine cell_drew ?_) | (with_reducible refine cell_drewN ?_) | (with_reducible refine cell_kept (by assumption) ?_) | (simp [go_sem]; done) | (with_reducible refine cell_alloc ?_))) | (simp [go_sem, *]; done)) (first | (go_at_call 90; with_reducible refine (L.out _).mono ?_; rintro e w1 ⟨rfl, hb⟩; have hs : _ ≤ w1.heap.size := hb.size; (try simp at hs); obtain ⟨hc, hf, hl, hn, hm⟩ := behind hb) | (go_at_call 90; with_reducible refine (H.out _).mono ?_; rintro e w1 ⟨rfl, hb⟩; have hs : _ ≤ w1.heap.size := hb.size; (try simp at hs); obtain ⟨hc, hf, hl, hn, hm⟩ := behind hb))
    all_goals (
      by_cases c : l < -36000000000
      · obtain ⟨e1, e2, e3⟩ := Z.out (fun k => by have := K.out.1 k; omega)
        have E := Lib.hid (show Value.tuple #[.int .i64 a1, .int .i64 a2, .bool a3] = .tuple #[.int .i64 0, .int .i64 0, .bool false] by rw [e1, e2, e3])
        clear Y Z K e1 e2 e3
        go_wp2
        go_ret3
        exact ⟨(by first | (rw [E.out]; done) | (rw [E.out]; rfl) | (simp [E.out]; done)), belB⟩
      · by_cases d : 36000000000 < -g
        · obtain ⟨e1, e2, e3⟩ := Z.out (fun k => by have := K.out.1 k; omega)
          have E := Lib.hid (show Value.tuple #[.int .i64 a1, .int .i64 a2, .bool a3] = .tuple #[.int .i64 0, .int .i64 0, .bool false] by rw [e1, e2, e3])
          clear Y Z K e1 e2 e3
          go_wp2
          go_ret3
          exact ⟨(by first | (rw [E.out]; done) | (rw [E.out]; rfl) | (simp [E.out]; done)), belB⟩
        · obtain ⟨e1, e2, e3⟩ := Y.out (K.out.2 (by omega))
          have E := Lib.hid (show Value.tuple #[.int .i64 a1, .int .i64 a2, .bool a3] = .tuple #[.int .i64 l, .int .i64 (-g), .bool true] by rw [e1, e2, e3])
          clear Y Z K e1 e2 e3
          go_wp2
          go_ret3
          exact ⟨by simp [E.out, N2.out], belB⟩)
  · have B := Lib.hid (show (!bnd x) = true by rw [bnd_no h]; rfl)
    obtain ⟨e1, e2, e3⟩ := un_no (x := x) (fun k => h k.1)
    have E := Lib.hid (show Value.tuple #[.int .i64 (unL x), .int .i64 (unH x), .bool (unK x)] = .tuple #[.int .i64 0, .int .i64 0, .bool false] by rw [e1, e2, e3])
    clear e1 e2 e3 h
    go_enter Try.func42, Try.ntmps42
    go_wp2_with fail
    refine (C.out _).mono ?_
    rintro e w1 ⟨rfl, hb1⟩
    have hs1 : _ ≤ w1.heap.size := hb1.size
    try simp at hs1
    rw [B.out]
    go_wp2
    go_ret3
    exact ⟨(by first | (rw [E.out]; done) | (rw [E.out]; rfl) | (simp [E.out]; done)), belB⟩
end Go.Proofs.Ytnnanbaldcjfiaa
