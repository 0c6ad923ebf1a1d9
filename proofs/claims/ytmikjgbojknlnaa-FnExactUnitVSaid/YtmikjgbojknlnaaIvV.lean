/- Contracts of common parts and overlaps of intervals in the model. Conditions: numbers are int64. -/
import Derived.Test.YtmikjgbojknlnaaIvM
import Derived.Test.YtmikjgbojknlnaaNumZ
import Derived.Outline
namespace Go.Proofs.Ytmikjgbojknlnaa
open Go.ChangeShapes Go.WideShapes Go.ChangeAt Go.RowKit
set_option linter.unusedVariables false
set_option maxRecDepth 100000
set_option linter.unusedSimpArgs false
set_option maxHeartbeats 1000000

theorem sMeetI_any (x y : Iv) (w : World) : Calls Try.prog 182 #[.agg #[.int .i64 x.1, .int .i64 x.2], .agg #[.int .i64 y.1, .int .i64 y.2]] w fun e w' =>
    e = .returned (.tuple #[.agg #[.int .i64 (metI x y).1, .int .i64 (metI x y).2], .bool (olpI x y)]) ∧ Below w.heap.size w w' := by
  by_cases h1 : Bnd x
  · by_cases h2 : Bnd y
    · have B1 := Lib.hid (bnd_yes h1)
      have B2 := Lib.hid (bnd_yes h2)
      by_cases k : max x.1 y.1 ≤ min x.2 y.2
      · have E := Lib.hid (meet_yes h1 h2 k)
        have k0 : ¬ min x.2 y.2 < max x.1 y.1 := by omega
        clear h1 h2 k
        go_enter Try.func182, Try.ntmps182
        go_wp2_with fail
        refine (l04Ok_any x _).mono ?_
        rintro e w1 ⟨rfl, hb1⟩
        have hs1 : _ ≤ w1.heap.size := hb1.size
        try simp at hs1
        rw [B1.out]
        have o_qa10 : Own (w1) (w.heap.size) 0 (.int .i64 x.1) := ownJ; obtain ⟨qa10, f_qa10⟩ := o_qa10; have o_qa11 : Own (w1) (w.heap.size) 1 (.int .i64 x.2) := ownJ; obtain ⟨qa11, f_qa11⟩ := o_qa11
        have o_qb10 : Own (w1) (w.heap.size + 1) 0 (.int .i64 y.1) := ownJ; obtain ⟨qb10, f_qb10⟩ := o_qb10; have o_qb11 : Own (w1) (w.heap.size + 1) 1 (.int .i64 y.2) := ownJ; obtain ⟨qb11, f_qb11⟩ := o_qb11
        have o_qr10 : Own (w1) (w.heap.size + 1 + 1) 0 (.int .i64 0) := ownJ; obtain ⟨qr10, f_qr10⟩ := o_qr10; have o_qr11 : Own (w1) (w.heap.size + 1 + 1) 1 (.int .i64 0) := ownJ; obtain ⟨qr11, f_qr11⟩ := o_qr11
        go_wp2_with fail
        refine (l04Ok_any x _).mono ?_
        rintro e w2 ⟨rfl, hb2⟩
        have hs2 : _ ≤ w2.heap.size := hb2.size
        try simp at hs2
        rw [B1.out]
        have o_qa20 : Own (w2) (w.heap.size) 0 (.int .i64 x.1) := ownJ; obtain ⟨qa20, f_qa20⟩ := o_qa20; have o_qa21 : Own (w2) (w.heap.size) 1 (.int .i64 x.2) := ownJ; obtain ⟨qa21, f_qa21⟩ := o_qa21
        have o_qb20 : Own (w2) (w.heap.size + 1) 0 (.int .i64 y.1) := ownJ; obtain ⟨qb20, f_qb20⟩ := o_qb20; have o_qb21 : Own (w2) (w.heap.size + 1) 1 (.int .i64 y.2) := ownJ; obtain ⟨qb21, f_qb21⟩ := o_qb21
        have o_qr20 : Own (w2) (w.heap.size + 1 + 1) 0 (.int .i64 0) := ownJ; obtain ⟨qr20, f_qr20⟩ := o_qr20; have o_qr21 : Own (w2) (w.heap.size + 1 + 1) 1 (.int .i64 0) := ownJ; obtain ⟨qr21, f_qr21⟩ := o_qr21
        go_wp2_with fail
        refine (l04Ok_any y _).mono ?_
        rintro e w3 ⟨rfl, hb3⟩
        have hs3 : _ ≤ w3.heap.size := hb3.size
        try simp at hs3
        rw [B2.out]
        have o_qa30 : Own (w3) (w.heap.size) 0 (.int .i64 x.1) := ownJ; obtain ⟨qa30, f_qa30⟩ := o_qa30; have o_qa31 : Own (w3) (w.heap.size) 1 (.int .i64 x.2) := ownJ; obtain ⟨qa31, f_qa31⟩ := o_qa31
        have o_qb30 : Own (w3) (w.heap.size + 1) 0 (.int .i64 y.1) := ownJ; obtain ⟨qb30, f_qb30⟩ := o_qb30; have o_qb31 : Own (w3) (w.heap.size + 1) 1 (.int .i64 y.2) := ownJ; obtain ⟨qb31, f_qb31⟩ := o_qb31
        have o_qr30 : Own (w3) (w.heap.size + 1 + 1) 0 (.int .i64 0) := ownJ; obtain ⟨qr30, f_qr30⟩ := o_qr30; have o_qr31 : Own (w3) (w.heap.size + 1 + 1) 1 (.int .i64 0) := ownJ; obtain ⟨qr31, f_qr31⟩ := o_qr31
        have lr : w.heap.size + 1 + 1 < w3.heap.size := World.block_lt_of_cell? _ _ qr30
        have nr : ¬ w.heap.size + 1 + 1 = w3.heap.size := Nat.ne_of_lt lr
        have mr : ¬ w3.heap.size = w.heap.size + 1 + 1 := Nat.ne_of_gt lr
        go_wp2_with fail
        obtain ⟨hlt2, hlt3, hlt4, hlt5, hlt6, hlt7, hlt8, hlt9, hlt10, hlt11⟩ := below_add; go_region_held3 (fun w' => w'.cell? ⟨w.heap.size, 0, none⟩ = some (.int .i64 x.1) ∧ w'.cell? ⟨w.heap.size, 1, none⟩ = some (.int .i64 x.2) ∧ w'.cell? ⟨w.heap.size + 1, 0, none⟩ = some (.int .i64 y.1) ∧ w'.cell? ⟨w.heap.size + 1, 1, none⟩ = some (.int .i64 y.2)) (first | (with_reducible exact ((And.imp (cell_kept (by assumption)) (And.imp (cell_kept (by assumption)) (And.imp (cell_kept (by assumption)) (cell_kept (by assumption))))) (by assumption))) | (with_reducible exact ((And.imp (cell_alloc) (And.imp (cell_alloc) (And.imp (cell_alloc) (cell_alloc)))) (by assumption))) | (with_reducible exact ((And.imp (fun h => cell_far (by first | (simp; done) | (simp; omega)) (cell_far (by first | (simp; done) | (simp; omega)) h)) (And.imp (fun h => cell_far (by first | (simp; done) | (simp; omega)) (cell_far (by first | (simp; done) | (simp; omega)) h)) (And.imp (fun h => cell_far (by first | (simp; done) | (simp; omega)) (cell_far (by first | (simp; done) | (simp; omega)) h)) (fun h => cell_far (by first | (simp; done) | (simp; omega)) (cell_far (by first | (simp; done) | (simp; omega)) h))))) (by assumption))) | (refine ⟨?_, ?_, ?_, ?_⟩ <;> repeat (first | (with_reducible assumption) | (with_reducible refine cell_far (by first | (simp; done) | (simp; omega)) ?_) | (with_reducible refine cell_drew ?_) | (with_reducible refine cell_drewN ?_) | (with_reducible refine cell_kept (by assumption) ?_) | (simp [go_sem]; done) | (with_reducible refine cell_alloc ?_))) | (simp [go_sem, *]; done)) (first | (go_at_call 158; refine (l00Min_any _ _ _).mono ?_; rintro e w1 ⟨rfl, rfl⟩) | (go_at_call 159; refine (l00Max_any _ _ _).mono ?_; rintro e w1 ⟨rfl, rfl⟩))
        all_goals (go_wp2; exact bodyPost_ret (v := .tuple #[.agg #[.int .i64 (max x.1 y.1), .int .i64 (min x.2 y.2)], .bool true]) (by simp [results, Try.results182, go_sem, qr30, qr31, lr, nr, mr]) rfl ⟨(by first | (rw [E.out.1, E.out.2]; done) | (rw [E.out.1, E.out.2]; rfl) | (simp [E.out.1, E.out.2]; done)), belB⟩)
      · have E := Lib.hid (meet_no h1 h2 k)
        have k0 : min x.2 y.2 < max x.1 y.1 := by omega
        clear h1 h2 k
        go_enter Try.func182, Try.ntmps182
        go_wp2_with fail
        refine (l04Ok_any x _).mono ?_
        rintro e w1 ⟨rfl, hb1⟩
        have hs1 : _ ≤ w1.heap.size := hb1.size
        try simp at hs1
        rw [B1.out]
        have o_qa10 : Own (w1) (w.heap.size) 0 (.int .i64 x.1) := ownJ; obtain ⟨qa10, f_qa10⟩ := o_qa10; have o_qa11 : Own (w1) (w.heap.size) 1 (.int .i64 x.2) := ownJ; obtain ⟨qa11, f_qa11⟩ := o_qa11
        have o_qb10 : Own (w1) (w.heap.size + 1) 0 (.int .i64 y.1) := ownJ; obtain ⟨qb10, f_qb10⟩ := o_qb10; have o_qb11 : Own (w1) (w.heap.size + 1) 1 (.int .i64 y.2) := ownJ; obtain ⟨qb11, f_qb11⟩ := o_qb11
        have o_qr10 : Own (w1) (w.heap.size + 1 + 1) 0 (.int .i64 0) := ownJ; obtain ⟨qr10, f_qr10⟩ := o_qr10; have o_qr11 : Own (w1) (w.heap.size + 1 + 1) 1 (.int .i64 0) := ownJ; obtain ⟨qr11, f_qr11⟩ := o_qr11
        go_wp2_with fail
        refine (l04Ok_any x _).mono ?_
        rintro e w2 ⟨rfl, hb2⟩
        have hs2 : _ ≤ w2.heap.size := hb2.size
        try simp at hs2
        rw [B1.out]
        have o_qa20 : Own (w2) (w.heap.size) 0 (.int .i64 x.1) := ownJ; obtain ⟨qa20, f_qa20⟩ := o_qa20; have o_qa21 : Own (w2) (w.heap.size) 1 (.int .i64 x.2) := ownJ; obtain ⟨qa21, f_qa21⟩ := o_qa21
        have o_qb20 : Own (w2) (w.heap.size + 1) 0 (.int .i64 y.1) := ownJ; obtain ⟨qb20, f_qb20⟩ := o_qb20; have o_qb21 : Own (w2) (w.heap.size + 1) 1 (.int .i64 y.2) := ownJ; obtain ⟨qb21, f_qb21⟩ := o_qb21
        have o_qr20 : Own (w2) (w.heap.size + 1 + 1) 0 (.int .i64 0) := ownJ; obtain ⟨qr20, f_qr20⟩ := o_qr20; have o_qr21 : Own (w2) (w.heap.size + 1 + 1) 1 (.int .i64 0) := ownJ; obtain ⟨qr21, f_qr21⟩ := o_qr21
        go_wp2_with fail
        refine (l04Ok_any y _).mono ?_
        rintro e w3 ⟨rfl, hb3⟩
        have hs3 : _ ≤ w3.heap.size := hb3.size
        try simp at hs3
        rw [B2.out]
        have o_qa30 : Own (w3) (w.heap.size) 0 (.int .i64 x.1) := ownJ; obtain ⟨qa30, f_qa30⟩ := o_qa30; have o_qa31 : Own (w3) (w.heap.size) 1 (.int .i64 x.2) := ownJ; obtain ⟨qa31, f_qa31⟩ := o_qa31
        have o_qb30 : Own (w3) (w.heap.size + 1) 0 (.int .i64 y.1) := ownJ; obtain ⟨qb30, f_qb30⟩ := o_qb30; have o_qb31 : Own (w3) (w.heap.size + 1) 1 (.int .i64 y.2) := ownJ; obtain ⟨qb31, f_qb31⟩ := o_qb31
        have o_qr30 : Own (w3) (w.heap.size + 1 + 1) 0 (.int .i64 0) := ownJ; obtain ⟨qr30, f_qr30⟩ := o_qr30; have o_qr31 : Own (w3) (w.heap.size + 1 + 1) 1 (.int .i64 0) := ownJ; obtain ⟨qr31, f_qr31⟩ := o_qr31
        have lr : w.heap.size + 1 + 1 < w3.heap.size := World.block_lt_of_cell? _ _ qr30
        have nr : ¬ w.heap.size + 1 + 1 = w3.heap.size := Nat.ne_of_lt lr
        have mr : ¬ w3.heap.size = w.heap.size + 1 + 1 := Nat.ne_of_gt lr
        go_wp2_with fail
        obtain ⟨hlt2, hlt3, hlt4, hlt5, hlt6, hlt7, hlt8, hlt9, hlt10, hlt11⟩ := below_add; go_region_held3 (fun w' => w'.cell? ⟨w.heap.size, 0, none⟩ = some (.int .i64 x.1) ∧ w'.cell? ⟨w.heap.size, 1, none⟩ = some (.int .i64 x.2) ∧ w'.cell? ⟨w.heap.size + 1, 0, none⟩ = some (.int .i64 y.1) ∧ w'.cell? ⟨w.heap.size + 1, 1, none⟩ = some (.int .i64 y.2)) (first | (with_reducible exact ((And.imp (cell_kept (by assumption)) (And.imp (cell_kept (by assumption)) (And.imp (cell_kept (by assumption)) (cell_kept (by assumption))))) (by assumption))) | (with_reducible exact ((And.imp (cell_alloc) (And.imp (cell_alloc) (And.imp (cell_alloc) (cell_alloc)))) (by assumption))) | (with_reducible exact ((And.imp (fun h => cell_far (by first | (simp; done) | (simp; omega)) (cell_far (by first | (simp; done) | (simp; omega)) h)) (And.imp (fun h => cell_far (by first | (simp; done) | (simp; omega)) (cell_far (by first | (simp; done) | (simp; omega)) h)) (And.imp (fun h => cell_far (by first | (simp; done) | (simp; omega)) (cell_far (by first | (simp; done) | (simp; omega)) h)) (fun h => cell_far (by first | (simp; done) | (simp; omega)) (cell_far (by first | (simp; done) | (simp; omega)) h))))) (by assumption))) | (refine ⟨?_, ?_, ?_, ?_⟩ <;> repeat (first | (with_reducible assumption) | (with_reducible refine cell_far (by first | (simp; done) | (simp; omega)) ?_) | (with_reducible refine cell_drew ?_) | (with_reducible refine cell_drewN ?_) | (with_reducible refine cell_kept (by assumption) ?_) | (simp [go_sem]; done) | (with_reducible refine cell_alloc ?_))) | (simp [go_sem, *]; done)) (first | (go_at_call 158; refine (l00Min_any _ _ _).mono ?_; rintro e w1 ⟨rfl, rfl⟩) | (go_at_call 159; refine (l00Max_any _ _ _).mono ?_; rintro e w1 ⟨rfl, rfl⟩))
        all_goals (go_wp2; exact bodyPost_ret (v := .tuple #[.agg #[.int .i64 0, .int .i64 0], .bool false]) (by simp [results, Try.results182, go_sem, qr30, qr31, lr, nr, mr]) rfl ⟨(by first | (rw [E.out.1, E.out.2]; done) | (rw [E.out.1, E.out.2]; rfl) | (simp [E.out.1, E.out.2]; done)), belB⟩)
    · have B1 := Lib.hid (bnd_yes h1)
      have B2 := Lib.hid (bnd_no h2)
      have E := Lib.hid (meet_right h1 h2)
      clear h1 h2
      go_enter Try.func182, Try.ntmps182
      go_wp2_with fail
      refine (l04Ok_any x _).mono ?_
      rintro e w1 ⟨rfl, hb1⟩
      have hs1 : _ ≤ w1.heap.size := hb1.size
      try simp at hs1
      rw [B1.out]
      have o_qa10 : Own (w1) (w.heap.size) 0 (.int .i64 x.1) := ownJ; obtain ⟨qa10, f_qa10⟩ := o_qa10; have o_qa11 : Own (w1) (w.heap.size) 1 (.int .i64 x.2) := ownJ; obtain ⟨qa11, f_qa11⟩ := o_qa11
      have o_qb10 : Own (w1) (w.heap.size + 1) 0 (.int .i64 y.1) := ownJ; obtain ⟨qb10, f_qb10⟩ := o_qb10; have o_qb11 : Own (w1) (w.heap.size + 1) 1 (.int .i64 y.2) := ownJ; obtain ⟨qb11, f_qb11⟩ := o_qb11
      have o_qr10 : Own (w1) (w.heap.size + 1 + 1) 0 (.int .i64 0) := ownJ; obtain ⟨qr10, f_qr10⟩ := o_qr10; have o_qr11 : Own (w1) (w.heap.size + 1 + 1) 1 (.int .i64 0) := ownJ; obtain ⟨qr11, f_qr11⟩ := o_qr11
      go_wp2_with fail
      refine (l04Ok_any x _).mono ?_
      rintro e w2 ⟨rfl, hb2⟩
      have hs2 : _ ≤ w2.heap.size := hb2.size
      try simp at hs2
      rw [B1.out]
      have o_qa20 : Own (w2) (w.heap.size) 0 (.int .i64 x.1) := ownJ; obtain ⟨qa20, f_qa20⟩ := o_qa20; have o_qa21 : Own (w2) (w.heap.size) 1 (.int .i64 x.2) := ownJ; obtain ⟨qa21, f_qa21⟩ := o_qa21
      have o_qb20 : Own (w2) (w.heap.size + 1) 0 (.int .i64 y.1) := ownJ; obtain ⟨qb20, f_qb20⟩ := o_qb20; have o_qb21 : Own (w2) (w.heap.size + 1) 1 (.int .i64 y.2) := ownJ; obtain ⟨qb21, f_qb21⟩ := o_qb21
      have o_qr20 : Own (w2) (w.heap.size + 1 + 1) 0 (.int .i64 0) := ownJ; obtain ⟨qr20, f_qr20⟩ := o_qr20; have o_qr21 : Own (w2) (w.heap.size + 1 + 1) 1 (.int .i64 0) := ownJ; obtain ⟨qr21, f_qr21⟩ := o_qr21
      go_wp2_with fail
      refine (l04Ok_any y _).mono ?_
      rintro e w3 ⟨rfl, hb3⟩
      have hs3 : _ ≤ w3.heap.size := hb3.size
      try simp at hs3
      rw [B2.out]
      have o_qa30 : Own (w3) (w.heap.size) 0 (.int .i64 x.1) := ownJ; obtain ⟨qa30, f_qa30⟩ := o_qa30; have o_qa31 : Own (w3) (w.heap.size) 1 (.int .i64 x.2) := ownJ; obtain ⟨qa31, f_qa31⟩ := o_qa31
      have o_qb30 : Own (w3) (w.heap.size + 1) 0 (.int .i64 y.1) := ownJ; obtain ⟨qb30, f_qb30⟩ := o_qb30; have o_qb31 : Own (w3) (w.heap.size + 1) 1 (.int .i64 y.2) := ownJ; obtain ⟨qb31, f_qb31⟩ := o_qb31
      have o_qr30 : Own (w3) (w.heap.size + 1 + 1) 0 (.int .i64 0) := ownJ; obtain ⟨qr30, f_qr30⟩ := o_qr30; have o_qr31 : Own (w3) (w.heap.size + 1 + 1) 1 (.int .i64 0) := ownJ; obtain ⟨qr31, f_qr31⟩ := o_qr31
      go_wp2
      exact bodyPost_ret (v := .tuple #[.agg #[.int .i64 x.1, .int .i64 x.2], .bool true]) (by simp [results, Try.results182, go_sem, qr30, qr31]) rfl ⟨(by first | (rw [E.out.1, E.out.2]; done) | (rw [E.out.1, E.out.2]; rfl) | (simp [E.out.1, E.out.2]; done)), belB⟩
  · by_cases h2 : Bnd y
    · have B1 := Lib.hid (bnd_no h1)
      have B2 := Lib.hid (bnd_yes h2)
      have E := Lib.hid (meet_left h1 h2)
      clear h1 h2
      go_enter Try.func182, Try.ntmps182
      go_wp2_with fail
      refine (l04Ok_any x _).mono ?_
      rintro e w1 ⟨rfl, hb1⟩
      have hs1 : _ ≤ w1.heap.size := hb1.size
      try simp at hs1
      rw [B1.out]
      have o_qa10 : Own (w1) (w.heap.size) 0 (.int .i64 x.1) := ownJ; obtain ⟨qa10, f_qa10⟩ := o_qa10; have o_qa11 : Own (w1) (w.heap.size) 1 (.int .i64 x.2) := ownJ; obtain ⟨qa11, f_qa11⟩ := o_qa11
      have o_qb10 : Own (w1) (w.heap.size + 1) 0 (.int .i64 y.1) := ownJ; obtain ⟨qb10, f_qb10⟩ := o_qb10; have o_qb11 : Own (w1) (w.heap.size + 1) 1 (.int .i64 y.2) := ownJ; obtain ⟨qb11, f_qb11⟩ := o_qb11
      have o_qr10 : Own (w1) (w.heap.size + 1 + 1) 0 (.int .i64 0) := ownJ; obtain ⟨qr10, f_qr10⟩ := o_qr10; have o_qr11 : Own (w1) (w.heap.size + 1 + 1) 1 (.int .i64 0) := ownJ; obtain ⟨qr11, f_qr11⟩ := o_qr11
      go_wp2_with fail
      refine (l04Ok_any y _).mono ?_
      rintro e w2 ⟨rfl, hb2⟩
      have hs2 : _ ≤ w2.heap.size := hb2.size
      try simp at hs2
      rw [B2.out]
      have o_qa20 : Own (w2) (w.heap.size) 0 (.int .i64 x.1) := ownJ; obtain ⟨qa20, f_qa20⟩ := o_qa20; have o_qa21 : Own (w2) (w.heap.size) 1 (.int .i64 x.2) := ownJ; obtain ⟨qa21, f_qa21⟩ := o_qa21
      have o_qb20 : Own (w2) (w.heap.size + 1) 0 (.int .i64 y.1) := ownJ; obtain ⟨qb20, f_qb20⟩ := o_qb20; have o_qb21 : Own (w2) (w.heap.size + 1) 1 (.int .i64 y.2) := ownJ; obtain ⟨qb21, f_qb21⟩ := o_qb21
      have o_qr20 : Own (w2) (w.heap.size + 1 + 1) 0 (.int .i64 0) := ownJ; obtain ⟨qr20, f_qr20⟩ := o_qr20; have o_qr21 : Own (w2) (w.heap.size + 1 + 1) 1 (.int .i64 0) := ownJ; obtain ⟨qr21, f_qr21⟩ := o_qr21
      go_wp2_with fail
      refine (l04Ok_any x _).mono ?_
      rintro e w3 ⟨rfl, hb3⟩
      have hs3 : _ ≤ w3.heap.size := hb3.size
      try simp at hs3
      rw [B1.out]
      have o_qa30 : Own (w3) (w.heap.size) 0 (.int .i64 x.1) := ownJ; obtain ⟨qa30, f_qa30⟩ := o_qa30; have o_qa31 : Own (w3) (w.heap.size) 1 (.int .i64 x.2) := ownJ; obtain ⟨qa31, f_qa31⟩ := o_qa31
      have o_qb30 : Own (w3) (w.heap.size + 1) 0 (.int .i64 y.1) := ownJ; obtain ⟨qb30, f_qb30⟩ := o_qb30; have o_qb31 : Own (w3) (w.heap.size + 1) 1 (.int .i64 y.2) := ownJ; obtain ⟨qb31, f_qb31⟩ := o_qb31
      have o_qr30 : Own (w3) (w.heap.size + 1 + 1) 0 (.int .i64 0) := ownJ; obtain ⟨qr30, f_qr30⟩ := o_qr30; have o_qr31 : Own (w3) (w.heap.size + 1 + 1) 1 (.int .i64 0) := ownJ; obtain ⟨qr31, f_qr31⟩ := o_qr31
      go_wp2
      exact bodyPost_ret (v := .tuple #[.agg #[.int .i64 y.1, .int .i64 y.2], .bool true]) (by simp [results, Try.results182, go_sem, qr30, qr31]) rfl ⟨(by first | (rw [E.out.1, E.out.2]; done) | (rw [E.out.1, E.out.2]; rfl) | (simp [E.out.1, E.out.2]; done)), belB⟩
    · have B1 := Lib.hid (bnd_no h1)
      have B2 := Lib.hid (bnd_no h2)
      have E := Lib.hid (meet_none h1 h2)
      clear h1 h2
      go_enter Try.func182, Try.ntmps182
      go_wp2_with fail
      refine (l04Ok_any x _).mono ?_
      rintro e w1 ⟨rfl, hb1⟩
      have hs1 : _ ≤ w1.heap.size := hb1.size
      try simp at hs1
      rw [B1.out]
      have o_qa10 : Own (w1) (w.heap.size) 0 (.int .i64 x.1) := ownJ; obtain ⟨qa10, f_qa10⟩ := o_qa10; have o_qa11 : Own (w1) (w.heap.size) 1 (.int .i64 x.2) := ownJ; obtain ⟨qa11, f_qa11⟩ := o_qa11
      have o_qb10 : Own (w1) (w.heap.size + 1) 0 (.int .i64 y.1) := ownJ; obtain ⟨qb10, f_qb10⟩ := o_qb10; have o_qb11 : Own (w1) (w.heap.size + 1) 1 (.int .i64 y.2) := ownJ; obtain ⟨qb11, f_qb11⟩ := o_qb11
      have o_qr10 : Own (w1) (w.heap.size + 1 + 1) 0 (.int .i64 0) := ownJ; obtain ⟨qr10, f_qr10⟩ := o_qr10; have o_qr11 : Own (w1) (w.heap.size + 1 + 1) 1 (.int .i64 0) := ownJ; obtain ⟨qr11, f_qr11⟩ := o_qr11
      go_wp2_with fail
      refine (l04Ok_any y _).mono ?_
      rintro e w2 ⟨rfl, hb2⟩
      have hs2 : _ ≤ w2.heap.size := hb2.size
      try simp at hs2
      rw [B2.out]
      have o_qa20 : Own (w2) (w.heap.size) 0 (.int .i64 x.1) := ownJ; obtain ⟨qa20, f_qa20⟩ := o_qa20; have o_qa21 : Own (w2) (w.heap.size) 1 (.int .i64 x.2) := ownJ; obtain ⟨qa21, f_qa21⟩ := o_qa21
      have o_qb20 : Own (w2) (w.heap.size + 1) 0 (.int .i64 y.1) := ownJ; obtain ⟨qb20, f_qb20⟩ := o_qb20; have o_qb21 : Own (w2) (w.heap.size + 1) 1 (.int .i64 y.2) := ownJ; obtain ⟨qb21, f_qb21⟩ := o_qb21
      have o_qr20 : Own (w2) (w.heap.size + 1 + 1) 0 (.int .i64 0) := ownJ; obtain ⟨qr20, f_qr20⟩ := o_qr20; have o_qr21 : Own (w2) (w.heap.size + 1 + 1) 1 (.int .i64 0) := ownJ; obtain ⟨qr21, f_qr21⟩ := o_qr21
      go_wp2_with fail
      refine (l04Whole_any _).mono ?_
      rintro e w3 ⟨rfl, hb3⟩
      have hs3 : _ ≤ w3.heap.size := hb3.size
      try simp at hs3
      have o_qr30 : Own (w3) (w.heap.size + 1 + 1) 0 (.int .i64 0) := ownJ; obtain ⟨qr30, f_qr30⟩ := o_qr30; have o_qr31 : Own (w3) (w.heap.size + 1 + 1) 1 (.int .i64 0) := ownJ; obtain ⟨qr31, f_qr31⟩ := o_qr31
      go_wp2
      exact bodyPost_ret (v := .tuple #[.agg #[.int .i64 (-1152921504606846976), .int .i64 1152921504606846976], .bool true]) (by simp [results, Try.results182, go_sem, qr30, qr31]) rfl ⟨(by first | (rw [E.out.1, E.out.2]; done) | (rw [E.out.1, E.out.2]; rfl) | (simp [E.out.1, E.out.2]; done)), belB⟩
theorem sOverlapI_any (x y : Iv) (w : World) : Calls Try.prog 138 #[.agg #[.int .i64 x.1, .int .i64 x.2], .agg #[.int .i64 y.1, .int .i64 y.2]] w fun e w' =>
    e = .returned (.bool (olpI x y)) ∧ Below w.heap.size w w' := by
  go_enter Try.func138, Try.ntmps138
  go_wp2_with fail
  refine (sMeetI_any x y _).mono ?_
  rintro e w1 ⟨rfl, hb1⟩
  have hs1 : _ ≤ w1.heap.size := hb1.size
  try simp at hs1
  go_wp2
  go_ret
  exact ⟨rfl, belB⟩
end Go.Proofs.Ytmikjgbojknlnaa
