/- Contracts of products and quotients of intervals in the program. Conditions: numbers are int64. -/
import Derived.Test.YtmikjgbojknlnaaIvE
import Derived.Outline
namespace Go.Proofs.Ytmikjgbojknlnaa
open Go.ChangeShapes Go.WideShapes Go.ChangeAt Go.RowKit
set_option linter.unusedVariables false
set_option maxRecDepth 100000
set_option linter.unusedSimpArgs false
set_option maxHeartbeats 1000000

theorem HasI_any (x : Iv) (n : Int) (w : World) : Calls Try.prog 144 #[.agg #[.int .i64 x.1, .int .i64 x.2], .int .i64 n] w fun e w' =>
    e = .returned (.bool (hasI x n)) ∧ Below w.heap.size w w' := by
  by_cases h : Bnd x
  · have B := Lib.hid (bnd_yes h)
    by_cases a : x.1 ≤ n
    · by_cases b : n ≤ x.2
      · have E := Lib.hid (show hasI x n = true from decide_eq_true (.inr ⟨a, b⟩))
        have b0 : decide (n ≤ x.2) = true := decide_eq_true b
        clear h
        go_enter Try.func144, Try.ntmps144
        go_wp2_with fail
        refine (IsWhole_any x _).mono ?_
        rintro e w1 ⟨rfl, hb1⟩
        have hs1 : _ ≤ w1.heap.size := hb1.size
        try simp at hs1
        rw [B.out]
        have o_qa10 : Own (w1) (w.heap.size) 0 (.int .i64 x.1) := ownJ; obtain ⟨qa10, f_qa10⟩ := o_qa10; have o_qa11 : Own (w1) (w.heap.size) 1 (.int .i64 x.2) := ownJ; obtain ⟨qa11, f_qa11⟩ := o_qa11
        go_wp2
        go_ret
        exact ⟨(by first | (rw [E.out]; done) | (rw [E.out]; rfl) | (simp [E.out]; done)), belB⟩
      · have E := Lib.hid (show hasI x n = false from decide_eq_false (fun k => k.elim (fun k => k h) (fun k => b k.2)))
        have b0 : decide (n ≤ x.2) = false := decide_eq_false b
        clear h
        go_enter Try.func144, Try.ntmps144
        go_wp2_with fail
        refine (IsWhole_any x _).mono ?_
        rintro e w1 ⟨rfl, hb1⟩
        have hs1 : _ ≤ w1.heap.size := hb1.size
        try simp at hs1
        rw [B.out]
        have o_qa10 : Own (w1) (w.heap.size) 0 (.int .i64 x.1) := ownJ; obtain ⟨qa10, f_qa10⟩ := o_qa10; have o_qa11 : Own (w1) (w.heap.size) 1 (.int .i64 x.2) := ownJ; obtain ⟨qa11, f_qa11⟩ := o_qa11
        go_wp2
        go_ret
        exact ⟨(by first | (rw [E.out]; done) | (rw [E.out]; rfl) | (simp [E.out]; done)), belB⟩
    · have E := Lib.hid (show hasI x n = false from decide_eq_false (fun k => k.elim (fun k => k h) (fun k => a k.1)))
      have a0 : decide (x.1 ≤ n) = false := decide_eq_false a
      clear h
      go_enter Try.func144, Try.ntmps144
      go_wp2_with fail
      refine (IsWhole_any x _).mono ?_
      rintro e w1 ⟨rfl, hb1⟩
      have hs1 : _ ≤ w1.heap.size := hb1.size
      try simp at hs1
      rw [B.out]
      have o_qa10 : Own (w1) (w.heap.size) 0 (.int .i64 x.1) := ownJ; obtain ⟨qa10, f_qa10⟩ := o_qa10; have o_qa11 : Own (w1) (w.heap.size) 1 (.int .i64 x.2) := ownJ; obtain ⟨qa11, f_qa11⟩ := o_qa11
      go_wp2
      go_ret
      exact ⟨(by first | (rw [E.out]; done) | (rw [E.out]; rfl) | (simp [E.out]; done)), belB⟩
  · have B := Lib.hid (bnd_no h)
    have E := Lib.hid (show hasI x n = true from decide_eq_true (.inl h))
    clear h
    go_enter Try.func144, Try.ntmps144
    go_wp2_with fail
    refine (IsWhole_any x _).mono ?_
    rintro e w1 ⟨rfl, hb1⟩
    have hs1 : _ ≤ w1.heap.size := hb1.size
    try simp at hs1
    rw [B.out]
    have o_qa10 : Own (w1) (w.heap.size) 0 (.int .i64 x.1) := ownJ; obtain ⟨qa10, f_qa10⟩ := o_qa10; have o_qa11 : Own (w1) (w.heap.size) 1 (.int .i64 x.2) := ownJ; obtain ⟨qa11, f_qa11⟩ := o_qa11
    go_wp2
    go_ret
    exact ⟨(by first | (rw [E.out]; done) | (rw [E.out]; rfl) | (simp [E.out]; done)), belB⟩
theorem productAt_any (a b : Int) (ha : In64 a) (hb : In64 b) (w : World) : Calls Try.prog 155 #[.int .i64 a, .int .i64 b] w fun e w' =>
    e = .returned (.agg #[.int .i64 (rdM a b).1, .int .i64 (rdM a b).2]) ∧ Below w.heap.size w w' := by
  have S := Lib.hid (fun w => rounded_M a b ha hb w)
  generalize rdM a b = r at *
  go_enter Try.func155, Try.ntmps155
  go_wp2_with fail
  refine (S.out _).mono ?_
  rintro e w1 ⟨rfl, hb1⟩
  have hs1 : _ ≤ w1.heap.size := hb1.size
  try simp at hs1
  have o_qr10 : Own (w1) (w.heap.size) 0 (.int .i64 0) := ownJ; obtain ⟨qr10, f_qr10⟩ := o_qr10; have o_qr11 : Own (w1) (w.heap.size) 1 (.int .i64 0) := ownJ; obtain ⟨qr11, f_qr11⟩ := o_qr11
  go_wp2
  exact bodyPost_ret (v := .agg #[.int .i64 (r).1, .int .i64 (r).2]) (by simp [results, Try.results155, go_sem, qr10, qr11]) rfl ⟨rfl, belB⟩
theorem corners_M (x y : Iv) (hx : Ok x) (hy : Ok y) (h : (bnd x && bnd y) = true) (w : World) : Calls Try.prog 154 #[.agg #[.int .i64 x.1, .int .i64 x.2], .agg #[.int .i64 y.1, .int .i64 y.2], .func (Fn.func 155) #[] #[]] w fun e w' =>
    e = .returned (.agg #[.int .i64 (hul4 (rdM x.1 y.1) (rdM x.1 y.2) (rdM x.2 y.1) (rdM x.2 y.2)).1, .int .i64 (hul4 (rdM x.1 y.1) (rdM x.1 y.2) (rdM x.2 y.1) (rdM x.2 y.2)).2]) ∧ Below w.heap.size w w' := by
  have B := Lib.hid h
  have X1 := Lib.hid hx.1
  have X2 := Lib.hid hx.2
  have Y1 := Lib.hid hy.1
  have Y2 := Lib.hid hy.2
  clear h hx hy
  go_enter Try.func154, Try.ntmps154
  go_wp2_with fail
  refine (areBounded2 x y _ _ (by simp [go_sem]) (by simp [go_sem]) (by simp [go_sem]) (by simp [go_sem])).mono ?_
  rintro e w1 ⟨rfl, hb1⟩
  have hs1 : _ ≤ w1.heap.size := hb1.size
  try simp at hs1
  rw [B.out]
  have o_qa10 : Own (w1) (w.heap.size) 0 (.int .i64 x.1) := ownJ; obtain ⟨qa10, f_qa10⟩ := o_qa10; have o_qa11 : Own (w1) (w.heap.size) 1 (.int .i64 x.2) := ownJ; obtain ⟨qa11, f_qa11⟩ := o_qa11
  have o_qb10 : Own (w1) (w.heap.size + 1) 0 (.int .i64 y.1) := ownJ; obtain ⟨qb10, f_qb10⟩ := o_qb10; have o_qb11 : Own (w1) (w.heap.size + 1) 1 (.int .i64 y.2) := ownJ; obtain ⟨qb11, f_qb11⟩ := o_qb11
  have o_qr10 : Own (w1) (w.heap.size + 1 + 1) 0 (.int .i64 0) := ownJ; obtain ⟨qr10, f_qr10⟩ := o_qr10; have o_qr11 : Own (w1) (w.heap.size + 1 + 1) 1 (.int .i64 0) := ownJ; obtain ⟨qr11, f_qr11⟩ := o_qr11
  go_wp2_with fail
  obtain ⟨hlt2, hlt3, hlt4, hlt5, hlt6, hlt7, hlt8, hlt9, hlt10, hlt11⟩ := below_add; go_region_held3 (fun w' => w'.cell? ⟨w.heap.size, 0, none⟩ = some (.int .i64 x.1) ∧ w'.cell? ⟨w.heap.size, 1, none⟩ = some (.int .i64 x.2) ∧ w'.cell? ⟨w.heap.size + 1, 0, none⟩ = some (.int .i64 y.1) ∧ w'.cell? ⟨w.heap.size + 1, 1, none⟩ = some (.int .i64 y.2) ∧ (w'.cell? ⟨w.heap.size + 1 + 1, 0, none⟩ = some (peek w' ⟨w.heap.size + 1 + 1, 0, none⟩) ∧ w'.frozen? ⟨w.heap.size + 1 + 1, 0, none⟩ = false) ∧ (w'.cell? ⟨w.heap.size + 1 + 1, 1, none⟩ = some (peek w' ⟨w.heap.size + 1 + 1, 1, none⟩) ∧ w'.frozen? ⟨w.heap.size + 1 + 1, 1, none⟩ = false)) (first | (with_reducible exact ((And.imp (cell_kept (by assumption)) (And.imp (cell_kept (by assumption)) (And.imp (cell_kept (by assumption)) (And.imp (cell_kept (by assumption)) (And.imp (pslot_kept (by assumption)) (pslot_kept (by assumption))))))) (by assumption))) | (with_reducible exact ((And.imp (cell_alloc) (And.imp (cell_alloc) (And.imp (cell_alloc) (And.imp (cell_alloc) (And.imp (pslot_alloc) (pslot_alloc)))))) (by assumption))) | (with_reducible exact ((And.imp (fun h => cell_far (by first | (simp; done) | (simp; omega)) (cell_far (by first | (simp; done) | (simp; omega)) h)) (And.imp (fun h => cell_far (by first | (simp; done) | (simp; omega)) (cell_far (by first | (simp; done) | (simp; omega)) h)) (And.imp (fun h => cell_far (by first | (simp; done) | (simp; omega)) (cell_far (by first | (simp; done) | (simp; omega)) h)) (And.imp (fun h => cell_far (by first | (simp; done) | (simp; omega)) (cell_far (by first | (simp; done) | (simp; omega)) h)) (And.imp (fun h => pslot_set (pslot_set h)) (fun h => pslot_set (pslot_set h))))))) (by assumption))) | (refine ⟨?_, ?_, ?_, ?_, ?_, ?_⟩ <;> repeat (first | (with_reducible assumption) | (with_reducible refine cell_far (by first | (simp; done) | (simp; omega)) ?_) | (with_reducible refine cell_drew ?_) | (with_reducible refine cell_drewN ?_) | (with_reducible refine cell_kept (by assumption) ?_) | (with_reducible exact pslot_of (by assumption) (by assumption)) | (with_reducible refine pslot_drew ?_) | (with_reducible refine pslot_kept (by assumption) ?_) | (with_reducible refine pslot_alloc ?_) | (simp [go_sem]; done) | (with_reducible refine cell_alloc ?_))) | (simp [go_sem, *]; done)) (first | (go_at_call 155; refine (productAt_any _ _ (by first | exact X1.out | exact X2.out) (by first | exact Y1.out | exact Y2.out) _).mono ?_; rintro e w1 ⟨rfl, hb⟩; have hs : _ ≤ w1.heap.size := hb.size; (try simp at hs); obtain ⟨hc, hf, hl, hn, hm⟩ := behind hb) | (go_at_call 189; refine (hullQ (rdM x.1 y.1) (rdM x.1 y.2) (rdM x.2 y.1) (rdM x.2 y.2) _ _ (by simp [go_sem]) (by simp [go_sem]) (by simp [go_sem]) (by simp [go_sem]) (by simp [go_sem]) (by simp [go_sem])).mono ?_; rintro e w1 ⟨rfl, hb⟩; have hs : _ ≤ w1.heap.size := hb.size; (try simp at hs); obtain ⟨hc, hf, hl, hn, hm⟩ := behind hb))
  all_goals (go_wp2; have o_j0 : Own (w1) (w.heap.size + 1 + 1) 0 (.int .i64 0) := ownJ; obtain ⟨j0, f_j0⟩ := o_j0; have o_j1 : Own (w1) (w.heap.size + 1 + 1) 1 (.int .i64 0) := ownJ; obtain ⟨j1, f_j1⟩ := o_j1; exact bodyPost_ret (v := .agg #[.int .i64 (hul4 (rdM x.1 y.1) (rdM x.1 y.2) (rdM x.2 y.1) (rdM x.2 y.2)).1, .int .i64 (hul4 (rdM x.1 y.1) (rdM x.1 y.2) (rdM x.2 y.1) (rdM x.2 y.2)).2]) (by simp [results, Try.results154, go_sem, j0, j1]) rfl ⟨rfl, belB⟩)
theorem corners_M_no (x y : Iv) (h : (bnd x && bnd y) = false) (w : World) : Calls Try.prog 154 #[.agg #[.int .i64 x.1, .int .i64 x.2], .agg #[.int .i64 y.1, .int .i64 y.2], .func (Fn.func 155) #[] #[]] w fun e w' =>
    e = .returned (.agg #[.int .i64 (-1152921504606846976), .int .i64 1152921504606846976]) ∧ Below w.heap.size w w' := by
  have B := Lib.hid h
  clear h
  go_enter Try.func154, Try.ntmps154
  go_wp2_with fail
  refine (areBounded2 x y _ _ (by simp [go_sem]) (by simp [go_sem]) (by simp [go_sem]) (by simp [go_sem])).mono ?_
  rintro e w1 ⟨rfl, hb1⟩
  have hs1 : _ ≤ w1.heap.size := hb1.size
  try simp at hs1
  rw [B.out]
  have o_qr10 : Own (w1) (w.heap.size + 1 + 1) 0 (.int .i64 0) := ownJ; obtain ⟨qr10, f_qr10⟩ := o_qr10; have o_qr11 : Own (w1) (w.heap.size + 1 + 1) 1 (.int .i64 0) := ownJ; obtain ⟨qr11, f_qr11⟩ := o_qr11
  go_wp2_with fail
  refine (Whole_any _).mono ?_
  rintro e w2 ⟨rfl, hb2⟩
  have hs2 : _ ≤ w2.heap.size := hb2.size
  try simp at hs2
  have o_qr20 : Own (w2) (w.heap.size + 1 + 1) 0 (.int .i64 0) := ownJ; obtain ⟨qr20, f_qr20⟩ := o_qr20; have o_qr21 : Own (w2) (w.heap.size + 1 + 1) 1 (.int .i64 0) := ownJ; obtain ⟨qr21, f_qr21⟩ := o_qr21
  go_wp2
  exact bodyPost_ret (v := .agg #[.int .i64 (-1152921504606846976), .int .i64 1152921504606846976]) (by simp [results, Try.results154, go_sem, qr20, qr21]) rfl ⟨rfl, belB⟩
theorem quotientAt_any (a b : Int) (ha : In64 a) (hb : In64 b) (w : World) : Calls Try.prog 205 #[.int .i64 a, .int .i64 b] w fun e w' =>
    e = .returned (.agg #[.int .i64 (rdD a b).1, .int .i64 (rdD a b).2]) ∧ Below w.heap.size w w' := by
  have S := Lib.hid (fun w => rounded_D a b ha hb w)
  generalize rdD a b = r at *
  go_enter Try.func205, Try.ntmps205
  go_wp2_with fail
  refine (S.out _).mono ?_
  rintro e w1 ⟨rfl, hb1⟩
  have hs1 : _ ≤ w1.heap.size := hb1.size
  try simp at hs1
  have o_qr10 : Own (w1) (w.heap.size) 0 (.int .i64 0) := ownJ; obtain ⟨qr10, f_qr10⟩ := o_qr10; have o_qr11 : Own (w1) (w.heap.size) 1 (.int .i64 0) := ownJ; obtain ⟨qr11, f_qr11⟩ := o_qr11
  go_wp2
  exact bodyPost_ret (v := .agg #[.int .i64 (r).1, .int .i64 (r).2]) (by simp [results, Try.results205, go_sem, qr10, qr11]) rfl ⟨rfl, belB⟩
theorem corners_D (x y : Iv) (hx : Ok x) (hy : Ok y) (h : (bnd x && bnd y) = true) (w : World) : Calls Try.prog 154 #[.agg #[.int .i64 x.1, .int .i64 x.2], .agg #[.int .i64 y.1, .int .i64 y.2], .func (Fn.func 205) #[] #[]] w fun e w' =>
    e = .returned (.agg #[.int .i64 (hul4 (rdD x.1 y.1) (rdD x.1 y.2) (rdD x.2 y.1) (rdD x.2 y.2)).1, .int .i64 (hul4 (rdD x.1 y.1) (rdD x.1 y.2) (rdD x.2 y.1) (rdD x.2 y.2)).2]) ∧ Below w.heap.size w w' := by
  have B := Lib.hid h
  have X1 := Lib.hid hx.1
  have X2 := Lib.hid hx.2
  have Y1 := Lib.hid hy.1
  have Y2 := Lib.hid hy.2
  clear h hx hy
  go_enter Try.func154, Try.ntmps154
  go_wp2_with fail
  refine (areBounded2 x y _ _ (by simp [go_sem]) (by simp [go_sem]) (by simp [go_sem]) (by simp [go_sem])).mono ?_
  rintro e w1 ⟨rfl, hb1⟩
  have hs1 : _ ≤ w1.heap.size := hb1.size
  try simp at hs1
  rw [B.out]
  have o_qa10 : Own (w1) (w.heap.size) 0 (.int .i64 x.1) := ownJ; obtain ⟨qa10, f_qa10⟩ := o_qa10; have o_qa11 : Own (w1) (w.heap.size) 1 (.int .i64 x.2) := ownJ; obtain ⟨qa11, f_qa11⟩ := o_qa11
  have o_qb10 : Own (w1) (w.heap.size + 1) 0 (.int .i64 y.1) := ownJ; obtain ⟨qb10, f_qb10⟩ := o_qb10; have o_qb11 : Own (w1) (w.heap.size + 1) 1 (.int .i64 y.2) := ownJ; obtain ⟨qb11, f_qb11⟩ := o_qb11
  have o_qr10 : Own (w1) (w.heap.size + 1 + 1) 0 (.int .i64 0) := ownJ; obtain ⟨qr10, f_qr10⟩ := o_qr10; have o_qr11 : Own (w1) (w.heap.size + 1 + 1) 1 (.int .i64 0) := ownJ; obtain ⟨qr11, f_qr11⟩ := o_qr11
  go_wp2_with fail
  obtain ⟨hlt2, hlt3, hlt4, hlt5, hlt6, hlt7, hlt8, hlt9, hlt10, hlt11⟩ := below_add; go_region_held3 (fun w' => w'.cell? ⟨w.heap.size, 0, none⟩ = some (.int .i64 x.1) ∧ w'.cell? ⟨w.heap.size, 1, none⟩ = some (.int .i64 x.2) ∧ w'.cell? ⟨w.heap.size + 1, 0, none⟩ = some (.int .i64 y.1) ∧ w'.cell? ⟨w.heap.size + 1, 1, none⟩ = some (.int .i64 y.2) ∧ (w'.cell? ⟨w.heap.size + 1 + 1, 0, none⟩ = some (peek w' ⟨w.heap.size + 1 + 1, 0, none⟩) ∧ w'.frozen? ⟨w.heap.size + 1 + 1, 0, none⟩ = false) ∧ (w'.cell? ⟨w.heap.size + 1 + 1, 1, none⟩ = some (peek w' ⟨w.heap.size + 1 + 1, 1, none⟩) ∧ w'.frozen? ⟨w.heap.size + 1 + 1, 1, none⟩ = false)) (first | (with_reducible exact ((And.imp (cell_kept (by assumption)) (And.imp (cell_kept (by assumption)) (And.imp (cell_kept (by assumption)) (And.imp (cell_kept (by assumption)) (And.imp (pslot_kept (by assumption)) (pslot_kept (by assumption))))))) (by assumption))) | (with_reducible exact ((And.imp (cell_alloc) (And.imp (cell_alloc) (And.imp (cell_alloc) (And.imp (cell_alloc) (And.imp (pslot_alloc) (pslot_alloc)))))) (by assumption))) | (with_reducible exact ((And.imp (fun h => cell_far (by first | (simp; done) | (simp; omega)) (cell_far (by first | (simp; done) | (simp; omega)) h)) (And.imp (fun h => cell_far (by first | (simp; done) | (simp; omega)) (cell_far (by first | (simp; done) | (simp; omega)) h)) (And.imp (fun h => cell_far (by first | (simp; done) | (simp; omega)) (cell_far (by first | (simp; done) | (simp; omega)) h)) (And.imp (fun h => cell_far (by first | (simp; done) | (simp; omega)) (cell_far (by first | (simp; done) | (simp; omega)) h)) (And.imp (fun h => pslot_set (pslot_set h)) (fun h => pslot_set (pslot_set h))))))) (by assumption))) | (refine ⟨?_, ?_, ?_, ?_, ?_, ?_⟩ <;> repeat (first | (with_reducible assumption) | (with_reducible refine cell_far (by first | (simp; done) | (simp; omega)) ?_) | (with_reducible refine cell_drew ?_) | (with_reducible refine cell_drewN ?_) | (with_reducible refine cell_kept (by assumption) ?_) | (with_reducible exact pslot_of (by assumption) (by assumption)) | (with_reducible refine pslot_drew ?_) | (with_reducible refine pslot_kept (by assumption) ?_) | (with_reducible refine pslot_alloc ?_) | (simp [go_sem]; done) | (with_reducible refine cell_alloc ?_))) | (simp [go_sem, *]; done)) (first | (go_at_call 205; refine (quotientAt_any _ _ (by first | exact X1.out | exact X2.out) (by first | exact Y1.out | exact Y2.out) _).mono ?_; rintro e w1 ⟨rfl, hb⟩; have hs : _ ≤ w1.heap.size := hb.size; (try simp at hs); obtain ⟨hc, hf, hl, hn, hm⟩ := behind hb) | (go_at_call 189; refine (hullQ (rdD x.1 y.1) (rdD x.1 y.2) (rdD x.2 y.1) (rdD x.2 y.2) _ _ (by simp [go_sem]) (by simp [go_sem]) (by simp [go_sem]) (by simp [go_sem]) (by simp [go_sem]) (by simp [go_sem])).mono ?_; rintro e w1 ⟨rfl, hb⟩; have hs : _ ≤ w1.heap.size := hb.size; (try simp at hs); obtain ⟨hc, hf, hl, hn, hm⟩ := behind hb))
  all_goals (go_wp2; have o_j0 : Own (w1) (w.heap.size + 1 + 1) 0 (.int .i64 0) := ownJ; obtain ⟨j0, f_j0⟩ := o_j0; have o_j1 : Own (w1) (w.heap.size + 1 + 1) 1 (.int .i64 0) := ownJ; obtain ⟨j1, f_j1⟩ := o_j1; exact bodyPost_ret (v := .agg #[.int .i64 (hul4 (rdD x.1 y.1) (rdD x.1 y.2) (rdD x.2 y.1) (rdD x.2 y.2)).1, .int .i64 (hul4 (rdD x.1 y.1) (rdD x.1 y.2) (rdD x.2 y.1) (rdD x.2 y.2)).2]) (by simp [results, Try.results154, go_sem, j0, j1]) rfl ⟨rfl, belB⟩)
theorem corners_D_no (x y : Iv) (h : (bnd x && bnd y) = false) (w : World) : Calls Try.prog 154 #[.agg #[.int .i64 x.1, .int .i64 x.2], .agg #[.int .i64 y.1, .int .i64 y.2], .func (Fn.func 205) #[] #[]] w fun e w' =>
    e = .returned (.agg #[.int .i64 (-1152921504606846976), .int .i64 1152921504606846976]) ∧ Below w.heap.size w w' := by
  have B := Lib.hid h
  clear h
  go_enter Try.func154, Try.ntmps154
  go_wp2_with fail
  refine (areBounded2 x y _ _ (by simp [go_sem]) (by simp [go_sem]) (by simp [go_sem]) (by simp [go_sem])).mono ?_
  rintro e w1 ⟨rfl, hb1⟩
  have hs1 : _ ≤ w1.heap.size := hb1.size
  try simp at hs1
  rw [B.out]
  have o_qr10 : Own (w1) (w.heap.size + 1 + 1) 0 (.int .i64 0) := ownJ; obtain ⟨qr10, f_qr10⟩ := o_qr10; have o_qr11 : Own (w1) (w.heap.size + 1 + 1) 1 (.int .i64 0) := ownJ; obtain ⟨qr11, f_qr11⟩ := o_qr11
  go_wp2_with fail
  refine (Whole_any _).mono ?_
  rintro e w2 ⟨rfl, hb2⟩
  have hs2 : _ ≤ w2.heap.size := hb2.size
  try simp at hs2
  have o_qr20 : Own (w2) (w.heap.size + 1 + 1) 0 (.int .i64 0) := ownJ; obtain ⟨qr20, f_qr20⟩ := o_qr20; have o_qr21 : Own (w2) (w.heap.size + 1 + 1) 1 (.int .i64 0) := ownJ; obtain ⟨qr21, f_qr21⟩ := o_qr21
  go_wp2
  exact bodyPost_ret (v := .agg #[.int .i64 (-1152921504606846976), .int .i64 1152921504606846976]) (by simp [results, Try.results154, go_sem, qr20, qr21]) rfl ⟨rfl, belB⟩
theorem MulI_any (x y : Iv) (hx : Ok x) (hy : Ok y) (w : World) : Calls Try.prog 97 #[.agg #[.int .i64 x.1, .int .i64 x.2], .agg #[.int .i64 y.1, .int .i64 y.2]] w fun e w' =>
    e = .returned (.agg #[.int .i64 (mulI x y).1, .int .i64 (mulI x y).2]) ∧ Below w.heap.size w w' := by
  cases h : (bnd x && bnd y)
  · have E := Lib.hid (show mulI x y = whl from if_neg (fun k => by rw [bnd_yes k.1, bnd_yes k.2] at h; cases h))
    have C := Lib.hid (fun w => corners_M_no x y h w)
    clear h
    go_enter Try.func97, Try.ntmps97
    go_wp2_with fail
    refine (C.out _).mono ?_
    rintro e w1 ⟨rfl, hb1⟩
    have hs1 : _ ≤ w1.heap.size := hb1.size
    try simp at hs1
    have o_qr10 : Own (w1) (w.heap.size + 1 + 1) 0 (.int .i64 0) := ownJ; obtain ⟨qr10, f_qr10⟩ := o_qr10; have o_qr11 : Own (w1) (w.heap.size + 1 + 1) 1 (.int .i64 0) := ownJ; obtain ⟨qr11, f_qr11⟩ := o_qr11
    go_wp2
    exact bodyPost_ret (v := .agg #[.int .i64 (-1152921504606846976), .int .i64 1152921504606846976]) (by simp [results, Try.results97, go_sem, qr10, qr11]) rfl ⟨(by first | (rw [E.out]; done) | (rw [E.out]; rfl) | (simp [E.out]; done)), belB⟩
  · have E := Lib.hid (show mulI x y = hul4 (rdM x.1 y.1) (rdM x.1 y.2) (rdM x.2 y.1) (rdM x.2 y.2) from if_pos (both_bnd h))
    have C := Lib.hid (fun w => corners_M x y hx hy h w)
    clear h hx hy
    go_enter Try.func97, Try.ntmps97
    go_wp2_with fail
    refine (C.out _).mono ?_
    rintro e w1 ⟨rfl, hb1⟩
    have hs1 : _ ≤ w1.heap.size := hb1.size
    try simp at hs1
    have o_qr10 : Own (w1) (w.heap.size + 1 + 1) 0 (.int .i64 0) := ownJ; obtain ⟨qr10, f_qr10⟩ := o_qr10; have o_qr11 : Own (w1) (w.heap.size + 1 + 1) 1 (.int .i64 0) := ownJ; obtain ⟨qr11, f_qr11⟩ := o_qr11
    go_wp2
    exact bodyPost_ret (v := .agg #[.int .i64 (hul4 (rdM x.1 y.1) (rdM x.1 y.2) (rdM x.2 y.1) (rdM x.2 y.2)).1, .int .i64 (hul4 (rdM x.1 y.1) (rdM x.1 y.2) (rdM x.2 y.1) (rdM x.2 y.2)).2]) (by simp [results, Try.results97, go_sem, qr10, qr11]) rfl ⟨(by first | (rw [E.out]; done) | (rw [E.out]; rfl) | (simp [E.out]; done)), belB⟩
theorem DivI_any (x y : Iv) (hx : Ok x) (hy : Ok y) (w : World) : Calls Try.prog 181 #[.agg #[.int .i64 x.1, .int .i64 x.2], .agg #[.int .i64 y.1, .int .i64 y.2]] w fun e w' =>
    e = .returned (.agg #[.int .i64 (divI x y).1, .int .i64 (divI x y).2]) ∧ Below w.heap.size w w' := by
  cases z : hasI y 0
  · have zn := of_decide_eq_false z
    have H := Lib.hid z
    cases h : (bnd x && bnd y)
    · have E := Lib.hid (show divI x y = whl from if_neg (fun k => by rw [bnd_yes k.1, bnd_yes k.2.1] at h; cases h))
      have C := Lib.hid (fun w => corners_D_no x y h w)
      clear h z zn
      go_enter Try.func181, Try.ntmps181
      go_wp2_with fail
      refine (HasI_any y 0 _).mono ?_
      rintro e w1 ⟨rfl, hb1⟩
      have hs1 : _ ≤ w1.heap.size := hb1.size
      try simp at hs1
      rw [H.out]
      have o_qa10 : Own (w1) (w.heap.size) 0 (.int .i64 x.1) := ownJ; obtain ⟨qa10, f_qa10⟩ := o_qa10; have o_qa11 : Own (w1) (w.heap.size) 1 (.int .i64 x.2) := ownJ; obtain ⟨qa11, f_qa11⟩ := o_qa11
      have o_qb10 : Own (w1) (w.heap.size + 1) 0 (.int .i64 y.1) := ownJ; obtain ⟨qb10, f_qb10⟩ := o_qb10; have o_qb11 : Own (w1) (w.heap.size + 1) 1 (.int .i64 y.2) := ownJ; obtain ⟨qb11, f_qb11⟩ := o_qb11
      have o_qr10 : Own (w1) (w.heap.size + 1 + 1) 0 (.int .i64 0) := ownJ; obtain ⟨qr10, f_qr10⟩ := o_qr10; have o_qr11 : Own (w1) (w.heap.size + 1 + 1) 1 (.int .i64 0) := ownJ; obtain ⟨qr11, f_qr11⟩ := o_qr11
      go_wp2_with fail
      refine (C.out _).mono ?_
      rintro e w2 ⟨rfl, hb2⟩
      have hs2 : _ ≤ w2.heap.size := hb2.size
      try simp at hs2
      have o_qr20 : Own (w2) (w.heap.size + 1 + 1) 0 (.int .i64 0) := ownJ; obtain ⟨qr20, f_qr20⟩ := o_qr20; have o_qr21 : Own (w2) (w.heap.size + 1 + 1) 1 (.int .i64 0) := ownJ; obtain ⟨qr21, f_qr21⟩ := o_qr21
      go_wp2
      exact bodyPost_ret (v := .agg #[.int .i64 (-1152921504606846976), .int .i64 1152921504606846976]) (by simp [results, Try.results181, go_sem, qr20, qr21]) rfl ⟨(by first | (rw [E.out]; done) | (rw [E.out]; rfl) | (simp [E.out]; done)), belB⟩
    · have E := Lib.hid (show divI x y = hul4 (rdD x.1 y.1) (rdD x.1 y.2) (rdD x.2 y.1) (rdD x.2 y.2) from if_pos ⟨(both_bnd h).1, (both_bnd h).2, fun k => zn (.inr k)⟩)
      have C := Lib.hid (fun w => corners_D x y hx hy h w)
      clear h hx hy z zn
      go_enter Try.func181, Try.ntmps181
      go_wp2_with fail
      refine (HasI_any y 0 _).mono ?_
      rintro e w1 ⟨rfl, hb1⟩
      have hs1 : _ ≤ w1.heap.size := hb1.size
      try simp at hs1
      rw [H.out]
      have o_qa10 : Own (w1) (w.heap.size) 0 (.int .i64 x.1) := ownJ; obtain ⟨qa10, f_qa10⟩ := o_qa10; have o_qa11 : Own (w1) (w.heap.size) 1 (.int .i64 x.2) := ownJ; obtain ⟨qa11, f_qa11⟩ := o_qa11
      have o_qb10 : Own (w1) (w.heap.size + 1) 0 (.int .i64 y.1) := ownJ; obtain ⟨qb10, f_qb10⟩ := o_qb10; have o_qb11 : Own (w1) (w.heap.size + 1) 1 (.int .i64 y.2) := ownJ; obtain ⟨qb11, f_qb11⟩ := o_qb11
      have o_qr10 : Own (w1) (w.heap.size + 1 + 1) 0 (.int .i64 0) := ownJ; obtain ⟨qr10, f_qr10⟩ := o_qr10; have o_qr11 : Own (w1) (w.heap.size + 1 + 1) 1 (.int .i64 0) := ownJ; obtain ⟨qr11, f_qr11⟩ := o_qr11
      go_wp2_with fail
      refine (C.out _).mono ?_
      rintro e w2 ⟨rfl, hb2⟩
      have hs2 : _ ≤ w2.heap.size := hb2.size
      try simp at hs2
      have o_qr20 : Own (w2) (w.heap.size + 1 + 1) 0 (.int .i64 0) := ownJ; obtain ⟨qr20, f_qr20⟩ := o_qr20; have o_qr21 : Own (w2) (w.heap.size + 1 + 1) 1 (.int .i64 0) := ownJ; obtain ⟨qr21, f_qr21⟩ := o_qr21
      go_wp2
      exact bodyPost_ret (v := .agg #[.int .i64 (hul4 (rdD x.1 y.1) (rdD x.1 y.2) (rdD x.2 y.1) (rdD x.2 y.2)).1, .int .i64 (hul4 (rdD x.1 y.1) (rdD x.1 y.2) (rdD x.2 y.1) (rdD x.2 y.2)).2]) (by simp [results, Try.results181, go_sem, qr20, qr21]) rfl ⟨(by first | (rw [E.out]; done) | (rw [E.out]; rfl) | (simp [E.out]; done)), belB⟩
  · have zp := of_decide_eq_true z
    have H := Lib.hid z
    have E := Lib.hid (show divI x y = whl from if_neg (fun k => zp.elim (fun q => q k.2.1) (fun q => k.2.2 q)))
    clear z zp
    go_enter Try.func181, Try.ntmps181
    go_wp2_with fail
    refine (HasI_any y 0 _).mono ?_
    rintro e w1 ⟨rfl, hb1⟩
    have hs1 : _ ≤ w1.heap.size := hb1.size
    try simp at hs1
    rw [H.out]
    have o_qa10 : Own (w1) (w.heap.size) 0 (.int .i64 x.1) := ownJ; obtain ⟨qa10, f_qa10⟩ := o_qa10; have o_qa11 : Own (w1) (w.heap.size) 1 (.int .i64 x.2) := ownJ; obtain ⟨qa11, f_qa11⟩ := o_qa11
    have o_qb10 : Own (w1) (w.heap.size + 1) 0 (.int .i64 y.1) := ownJ; obtain ⟨qb10, f_qb10⟩ := o_qb10; have o_qb11 : Own (w1) (w.heap.size + 1) 1 (.int .i64 y.2) := ownJ; obtain ⟨qb11, f_qb11⟩ := o_qb11
    have o_qr10 : Own (w1) (w.heap.size + 1 + 1) 0 (.int .i64 0) := ownJ; obtain ⟨qr10, f_qr10⟩ := o_qr10; have o_qr11 : Own (w1) (w.heap.size + 1 + 1) 1 (.int .i64 0) := ownJ; obtain ⟨qr11, f_qr11⟩ := o_qr11
    go_wp2_with fail
    refine (Whole_any _).mono ?_
    rintro e w2 ⟨rfl, hb2⟩
    have hs2 : _ ≤ w2.heap.size := hb2.size
    try simp at hs2
    have o_qr20 : Own (w2) (w.heap.size + 1 + 1) 0 (.int .i64 0) := ownJ; obtain ⟨qr20, f_qr20⟩ := o_qr20; have o_qr21 : Own (w2) (w.heap.size + 1 + 1) 1 (.int .i64 0) := ownJ; obtain ⟨qr21, f_qr21⟩ := o_qr21
    go_wp2
    exact bodyPost_ret (v := .agg #[.int .i64 (-1152921504606846976), .int .i64 1152921504606846976]) (by simp [results, Try.results181, go_sem, qr20, qr21]) rfl ⟨(by first | (rw [E.out]; done) | (rw [E.out]; rfl) | (simp [E.out]; done)), belB⟩
end Go.Proofs.Ytmikjgbojknlnaa
