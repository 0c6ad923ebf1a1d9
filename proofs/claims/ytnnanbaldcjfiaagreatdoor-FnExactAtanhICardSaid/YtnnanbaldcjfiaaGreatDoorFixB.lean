/- Contracts of exact roots and of the choice of a fix. Conditions: numbers are int64. -/
import Derived.Test.YtnnanbaldcjfiaaGreatDoorFixA
import Derived.Outline
namespace Go.Proofs.YtnnanbaldcjfiaaGreatDoor
open Go.ChangeShapes Go.WideShapes Go.ChangeAt Go.RowKit
set_option linter.unusedVariables false
set_option maxRecDepth 100000
set_option linter.unusedSimpArgs false
set_option maxHeartbeats 1000000

theorem sf_unit {a : Int} (h : In64 a) (h1 : a ≤ 1152921504606846976) : sfI a 4294967296 = rtD a ∧ sfB a 4294967296 = decide (0 ≤ a) := by
  have b := rtD_in h1
  unfold sfI sfB
  by_cases s : a < 0
  · rw [if_pos (.inl s)]
    exact ⟨(if_pos s).symm, by simp; first | done | omega⟩
  · rw [if_neg (by omega)]
    have e : rtD a = (rootW (a * 4294967296).toNat : Int) := if_neg s
    rw [← e]
    exact ⟨wrap64_self (by unfold In64; omega), by simp; first | done | omega⟩
theorem root_down (a : Int) (h : In64 a) (h1 : a ≤ 1152921504606846976) (w : World) : Calls Tryz.prog 152 #[.agg #[.int .i64 a, .int .i64 4294967296]] w fun e w' =>
    e = .returned (.tuple #[.agg #[.int .i64 (hiW (rtD a)), .int .u64 (loW (rtD a))], .bool (decide (0 ≤ a))]) ∧ Below w.heap.size w w' := by
  have S := Lib.hid (sf_unit h h1)
  have B := Lib.hid (rtD_in h1)
  have C := Lib.hid (fun w => SqrtFloor_any a 4294967296 h (by unfold In64; omega) w)
  have D := Lib.hid (fun w => WideOf_any (rtD a) (by have := B.out; unfold In64; omega) w)
  go_enter Tryz.func152, Tryz.ntmps152
  go_wp2_with fail
  refine (C.out _).mono ?_
  rintro e w1 ⟨rfl, hb1⟩
  have hs1 : _ ≤ w1.heap.size := hb1.size
  try simp at hs1
  rw [S.out.1, S.out.2]
  go_wp2_with fail
  refine (D.out _).mono ?_
  rintro e w2 ⟨rfl, hb2⟩
  have hs2 : _ ≤ w2.heap.size := hb2.size
  try simp at hs2
  have o_j0 : Own (w2) (w.heap.size + 1) 0 (.int .i64 0) := ownJ; obtain ⟨j0, f_j0⟩ := o_j0; have o_j1 : Own (w2) (w.heap.size + 1) 1 (.int .u64 0) := ownJ; obtain ⟨j1, f_j1⟩ := o_j1
  go_wp2
  exact bodyPost_ret (v := .tuple #[.agg #[.int .i64 (hiW (rtD a)), .int .u64 (loW (rtD a))], .bool (decide (0 ≤ a))]) (by simp [results, Tryz.results152, go_sem, j0, j1]) rfl ⟨rfl, belB⟩
theorem root_up (a : Int) (h : In64 a) (h1 : a ≤ 1152921504606846976) (w : World) : Calls Tryz.prog 153 #[.agg #[.int .i64 a, .int .i64 4294967296]] w fun e w' =>
    e = .returned (.tuple #[.agg #[.int .i64 (hiW (rtU a)), .int .u64 (loW (rtU a))], .bool (decide (0 ≤ a))]) ∧ Below w.heap.size w w' := by
  have S := Lib.hid (sf_unit h h1)
  have b := rtD_in h1
  have u64 : In64 4294967296 := by unfold In64; omega
  have C := Lib.hid (fun w => SqrtFloor_any a 4294967296 h u64 w)
  have r64 : In64 (rtD a) := by unfold In64; omega
  have M := Lib.hid (fun (x y : Int) (hx : In64 x) (hy : In64 y) w => WideMul_any x y hx hy w)
  have T := Lib.hid u64
  have R := Lib.hid r64
  have H := Lib.hid h
  obtain ⟨b0, b1⟩ := b
  clear u64 r64 h h1
  by_cases e : rtD a * rtD a = a * 4294967296
  · have U := Lib.hid (show rtU a = rtD a from if_pos e)
    have e0 : (hiW (rtD a * rtD a) == hiW (a * 4294967296)) = true := by simp [e]
    have e1 : (loW (rtD a * rtD a) == loW (a * 4294967296)) = true := by simp [e]
    have D := Lib.hid (fun w => WideOf_any (rtD a) R.out w)
    clear e
    go_enter Tryz.func153, Tryz.ntmps153
    go_wp2_with fail
    refine (C.out _).mono ?_
    rintro e w1 ⟨rfl, hb1⟩
    have hs1 : _ ≤ w1.heap.size := hb1.size
    try simp at hs1
    rw [S.out.1, S.out.2]
    have o_p0 : Own (w1) (w.heap.size) 0 (.int .i64 a) := ownJ; obtain ⟨p0, f_p0⟩ := o_p0; have o_p1 : Own (w1) (w.heap.size) 1 (.int .i64 4294967296) := ownJ; obtain ⟨p1, f_p1⟩ := o_p1
    go_wp2_with fail
    obtain ⟨hlt2, hlt3, hlt4, hlt5, hlt6, hlt7, hlt8, hlt9, hlt10, hlt11⟩ := below_add; go_region_held3 (fun w' => w'.cell? ⟨w.heap.size, 0, none⟩ = some (.int .i64 a) ∧ w'.cell? ⟨w.heap.size, 1, none⟩ = some (.int .i64 4294967296)) (first | (with_reducible exact ((And.imp (cell_kept (by assumption)) (cell_kept (by assumption))) (by assumption))) | (with_reducible exact ((And.imp (cell_alloc) (cell_alloc)) (by assumption))) | (with_reducible exact ((And.imp (fun h => cell_far (by first | (simp; done) | (simp; omega)) (cell_far (by first | (simp; done) | (simp; omega)) h)) (fun h => cell_far (by first | (simp; done) | (simp; omega)) (cell_far (by first | (simp; done) | (simp; omega)) h))) (by assumption))) | (refine ⟨?_, ?_⟩ <;> repeat (first | (with_reducible assumption) | (with_reducible refine cell_far (by first | (simp; done) | (simp; omega)) ?_) | (with_reducible refine cell_drew ?_) | (with_reducible refine cell_drewN ?_) | (with_reducible refine cell_kept (by assumption) ?_) | (simp [go_sem]; done) | (with_reducible refine cell_alloc ?_))) | (simp [go_sem, *]; done)) ((go_at_call 94; refine (M.out _ _ (by first | exact R.out | exact H.out) (by first | exact R.out | exact T.out) _).mono ?_; rintro e w1 ⟨rfl, hb⟩; have hs : _ ≤ w1.heap.size := hb.size; (try simp at hs); obtain ⟨hc, hf, hl, hn, hm⟩ := behind hb))
    go_wp2_with fail
    refine (D.out _).mono ?_
    rintro e w4 ⟨rfl, hb4⟩
    have hs4 : _ ≤ w4.heap.size := hb4.size
    try simp at hs4
    have o_j0 : Own (w4) (w.heap.size + 1) 0 (.int .i64 0) := ownJ; obtain ⟨j0, f_j0⟩ := o_j0; have o_j1 : Own (w4) (w.heap.size + 1) 1 (.int .u64 0) := ownJ; obtain ⟨j1, f_j1⟩ := o_j1
    go_wp2
    exact bodyPost_ret (v := .tuple #[.agg #[.int .i64 (hiW (rtD a)), .int .u64 (loW (rtD a))], .bool (decide (0 ≤ a))]) (by simp [results, Tryz.results153, go_sem, j0, j1]) rfl ⟨(by first | (rw [U.out]; done) | (rw [U.out]; rfl) | (simp [U.out]; done)), belB⟩
  · have U := Lib.hid (show rtU a = rtD a + 1 from if_neg e)
    have D := Lib.hid (fun w => WideOf_any (rtD a + 1) (by unfold In64; omega) w)
    by_cases f : hiW (rtD a * rtD a) = hiW (a * 4294967296)
    · have e0 : (hiW (rtD a * rtD a) == hiW (a * 4294967296)) = true := by simpa using f
      have e1 : (loW (rtD a * rtD a) == loW (a * 4294967296)) = false := by
        rw [Bool.eq_false_iff]; intro g; exact e (same_hl f (by simpa using g))
      clear e f
      go_enter Tryz.func153, Tryz.ntmps153
      go_wp2_with fail
      refine (C.out _).mono ?_
      rintro e w1 ⟨rfl, hb1⟩
      have hs1 : _ ≤ w1.heap.size := hb1.size
      try simp at hs1
      rw [S.out.1, S.out.2]
      have o_p0 : Own (w1) (w.heap.size) 0 (.int .i64 a) := ownJ; obtain ⟨p0, f_p0⟩ := o_p0; have o_p1 : Own (w1) (w.heap.size) 1 (.int .i64 4294967296) := ownJ; obtain ⟨p1, f_p1⟩ := o_p1
      go_wp2_with fail
      obtain ⟨hlt2, hlt3, hlt4, hlt5, hlt6, hlt7, hlt8, hlt9, hlt10, hlt11⟩ := below_add; go_region_held3 (fun w' => w'.cell? ⟨w.heap.size, 0, none⟩ = some (.int .i64 a) ∧ w'.cell? ⟨w.heap.size, 1, none⟩ = some (.int .i64 4294967296)) (first | (with_reducible exact ((And.imp (cell_kept (by assumption)) (cell_kept (by assumption))) (by assumption))) | (with_reducible exact ((And.imp (cell_alloc) (cell_alloc)) (by assumption))) | (with_reducible exact ((And.imp (fun h => cell_far (by first | (simp; done) | (simp; omega)) (cell_far (by first | (simp; done) | (simp; omega)) h)) (fun h => cell_far (by first | (simp; done) | (simp; omega)) (cell_far (by first | (simp; done) | (simp; omega)) h))) (by assumption))) | (refine ⟨?_, ?_⟩ <;> repeat (first | (with_reducible assumption) | (with_reducible refine cell_far (by first | (simp; done) | (simp; omega)) ?_) | (with_reducible refine cell_drew ?_) | (with_reducible refine cell_drewN ?_) | (with_reducible refine cell_kept (by assumption) ?_) | (simp [go_sem]; done) | (with_reducible refine cell_alloc ?_))) | (simp [go_sem, *]; done)) ((go_at_call 94; refine (M.out _ _ (by first | exact R.out | exact H.out) (by first | exact R.out | exact T.out) _).mono ?_; rintro e w1 ⟨rfl, hb⟩; have hs : _ ≤ w1.heap.size := hb.size; (try simp at hs); obtain ⟨hc, hf, hl, hn, hm⟩ := behind hb))
      go_wp2_with fail
      refine (D.out _).mono ?_
      rintro e w4 ⟨rfl, hb4⟩
      have hs4 : _ ≤ w4.heap.size := hb4.size
      try simp at hs4
      have o_j0 : Own (w4) (w.heap.size + 1) 0 (.int .i64 0) := ownJ; obtain ⟨j0, f_j0⟩ := o_j0; have o_j1 : Own (w4) (w.heap.size + 1) 1 (.int .u64 0) := ownJ; obtain ⟨j1, f_j1⟩ := o_j1
      go_wp2
      exact bodyPost_ret (v := .tuple #[.agg #[.int .i64 (hiW (rtD a + 1)), .int .u64 (loW (rtD a + 1))], .bool (decide (0 ≤ a))]) (by simp [results, Tryz.results153, go_sem, j0, j1]) rfl ⟨(by first | (rw [U.out]; done) | (rw [U.out]; rfl) | (simp [U.out]; done)), belB⟩
    · have e0 : (hiW (rtD a * rtD a) == hiW (a * 4294967296)) = false := by simpa using f
      clear e f
      go_enter Tryz.func153, Tryz.ntmps153
      go_wp2_with fail
      refine (C.out _).mono ?_
      rintro e w1 ⟨rfl, hb1⟩
      have hs1 : _ ≤ w1.heap.size := hb1.size
      try simp at hs1
      rw [S.out.1, S.out.2]
      have o_p0 : Own (w1) (w.heap.size) 0 (.int .i64 a) := ownJ; obtain ⟨p0, f_p0⟩ := o_p0; have o_p1 : Own (w1) (w.heap.size) 1 (.int .i64 4294967296) := ownJ; obtain ⟨p1, f_p1⟩ := o_p1
      go_wp2_with fail
      obtain ⟨hlt2, hlt3, hlt4, hlt5, hlt6, hlt7, hlt8, hlt9, hlt10, hlt11⟩ := below_add; go_region_held3 (fun w' => w'.cell? ⟨w.heap.size, 0, none⟩ = some (.int .i64 a) ∧ w'.cell? ⟨w.heap.size, 1, none⟩ = some (.int .i64 4294967296)) (first | (with_reducible exact ((And.imp (cell_kept (by assumption)) (cell_kept (by assumption))) (by assumption))) | (with_reducible exact ((And.imp (cell_alloc) (cell_alloc)) (by assumption))) | (with_reducible exact ((And.imp (fun h => cell_far (by first | (simp; done) | (simp; omega)) (cell_far (by first | (simp; done) | (simp; omega)) h)) (fun h => cell_far (by first | (simp; done) | (simp; omega)) (cell_far (by first | (simp; done) | (simp; omega)) h))) (by assumption))) | (refine ⟨?_, ?_⟩ <;> repeat (first | (with_reducible assumption) | (with_reducible refine cell_far (by first | (simp; done) | (simp; omega)) ?_) | (with_reducible refine cell_drew ?_) | (with_reducible refine cell_drewN ?_) | (with_reducible refine cell_kept (by assumption) ?_) | (simp [go_sem]; done) | (with_reducible refine cell_alloc ?_))) | (simp [go_sem, *]; done)) ((go_at_call 94; refine (M.out _ _ (by first | exact R.out | exact H.out) (by first | exact R.out | exact T.out) _).mono ?_; rintro e w1 ⟨rfl, hb⟩; have hs : _ ≤ w1.heap.size := hb.size; (try simp at hs); obtain ⟨hc, hf, hl, hn, hm⟩ := behind hb))
      go_wp2_with fail
      refine (D.out _).mono ?_
      rintro e w4 ⟨rfl, hb4⟩
      have hs4 : _ ≤ w4.heap.size := hb4.size
      try simp at hs4
      have o_j0 : Own (w4) (w.heap.size + 1) 0 (.int .i64 0) := ownJ; obtain ⟨j0, f_j0⟩ := o_j0; have o_j1 : Own (w4) (w.heap.size + 1) 1 (.int .u64 0) := ownJ; obtain ⟨j1, f_j1⟩ := o_j1
      go_wp2
      exact bodyPost_ret (v := .tuple #[.agg #[.int .i64 (hiW (rtD a + 1)), .int .u64 (loW (rtD a + 1))], .bool (decide (0 ≤ a))]) (by simp [results, Tryz.results153, go_sem, j0, j1]) rfl ⟨(by first | (rw [U.out]; done) | (rw [U.out]; rfl) | (simp [U.out]; done)), belB⟩
theorem fixOf_down (v d : Int) (hv : InW v) (hd : In64 d) (w : World) : Calls Tryz.prog 93 #[.func (Fn.func 95) #[.agg #[.int .i64 (hiW v), .int .u64 (loW v), .int .i64 d]] #[]] w fun e w' =>
    e = .returned (.tuple #[.int .i64 (resI (okD d) (quoW v d)), .bool (resB (okD d) (quoW v d))]) ∧ Below w.heap.size w w' := by
  have C := Lib.hid (fun w => ratio_down v d hv hd w)
  have XI := Lib.hid (show InW (quoW v d) from quoW_in hv)
  obtain ⟨x, hx⟩ : ∃ x, x = quoW v d := ⟨_, rfl⟩
  rw [← hx] at C XI
  rw [← hx]
  have WI := Lib.hid (fun w => WideInt_any x XI.out w)
  clear hx XI
  obtain ⟨c, hc⟩ : ∃ c, c = okD d := ⟨_, rfl⟩
  rw [← hc] at C
  rw [← hc]
  clear hc hv hd
  by_cases s : In64 x
  · have O := okW_yes s
    have V := Lib.hid (intW_self s)
    clear s
    by_cases f : InF x
    · have F := okF_yes f
      cases c
      · have E := Lib.hid (res_none (c := false) (v := x) rfl)
        clear f
        go_enter Tryz.func93, Tryz.ntmps93
        go_wp2_with fail
        refine (C.out _).mono ?_
        rintro e w1 ⟨rfl, hb1⟩
        have hs1 : _ ≤ w1.heap.size := hb1.size
        try simp at hs1
        go_wp2_with fail
        refine (WI.out _).mono ?_
        rintro e w2 ⟨rfl, hb2⟩
        have hs2 : _ ≤ w2.heap.size := hb2.size
        try simp at hs2
        go_wp2
        go_ret2
        exact ⟨(by first | (rw [E.out.1, E.out.2]; done) | (rw [E.out.1, E.out.2]; rfl) | (simp [E.out.1, E.out.2]; done)), belB⟩
      · have E := Lib.hid (res_yes (c := true) rfl f)
        clear f
        go_enter Tryz.func93, Tryz.ntmps93
        go_wp2_with fail
        refine (C.out _).mono ?_
        rintro e w1 ⟨rfl, hb1⟩
        have hs1 : _ ≤ w1.heap.size := hb1.size
        try simp at hs1
        go_wp2_with fail
        refine (WI.out _).mono ?_
        rintro e w2 ⟨rfl, hb2⟩
        have hs2 : _ ≤ w2.heap.size := hb2.size
        try simp at hs2
        rw [V.out]
        go_wp2_with fail
        refine (ValidFix_any x _).mono ?_
        rintro e w3 ⟨rfl, rfl⟩
        go_wp2
        go_ret2
        exact ⟨(by first | (rw [E.out.1, E.out.2]; done) | (rw [E.out.1, E.out.2]; rfl) | (simp [E.out.1, E.out.2]; done)), belB⟩
    · have F := okF_no f
      have E := Lib.hid (res_over (c := c) f)
      clear f
      cases c
      · go_enter Tryz.func93, Tryz.ntmps93
        go_wp2_with fail
        refine (C.out _).mono ?_
        rintro e w1 ⟨rfl, hb1⟩
        have hs1 : _ ≤ w1.heap.size := hb1.size
        try simp at hs1
        go_wp2_with fail
        refine (WI.out _).mono ?_
        rintro e w2 ⟨rfl, hb2⟩
        have hs2 : _ ≤ w2.heap.size := hb2.size
        try simp at hs2
        go_wp2
        go_ret2
        exact ⟨(by first | (rw [E.out.1, E.out.2]; done) | (rw [E.out.1, E.out.2]; rfl) | (simp [E.out.1, E.out.2]; done)), belB⟩
      · go_enter Tryz.func93, Tryz.ntmps93
        go_wp2_with fail
        refine (C.out _).mono ?_
        rintro e w1 ⟨rfl, hb1⟩
        have hs1 : _ ≤ w1.heap.size := hb1.size
        try simp at hs1
        go_wp2_with fail
        refine (WI.out _).mono ?_
        rintro e w2 ⟨rfl, hb2⟩
        have hs2 : _ ≤ w2.heap.size := hb2.size
        try simp at hs2
        rw [V.out]
        go_wp2_with fail
        refine (ValidFix_any x _).mono ?_
        rintro e w3 ⟨rfl, rfl⟩
        go_wp2
        go_ret2
        exact ⟨(by first | (rw [E.out.1, E.out.2]; done) | (rw [E.out.1, E.out.2]; rfl) | (simp [E.out.1, E.out.2]; done)), belB⟩
  · have O := okW_no s
    have E := Lib.hid (res_over (c := c) (fun f : InF x => s (inF_64 f)))
    clear s
    cases c
    · go_enter Tryz.func93, Tryz.ntmps93
      go_wp2_with fail
      refine (C.out _).mono ?_
      rintro e w1 ⟨rfl, hb1⟩
      have hs1 : _ ≤ w1.heap.size := hb1.size
      try simp at hs1
      go_wp2_with fail
      refine (WI.out _).mono ?_
      rintro e w2 ⟨rfl, hb2⟩
      have hs2 : _ ≤ w2.heap.size := hb2.size
      try simp at hs2
      go_wp2
      go_ret2
      exact ⟨(by first | (rw [E.out.1, E.out.2]; done) | (rw [E.out.1, E.out.2]; rfl) | (simp [E.out.1, E.out.2]; done)), belB⟩
    · go_enter Tryz.func93, Tryz.ntmps93
      go_wp2_with fail
      refine (C.out _).mono ?_
      rintro e w1 ⟨rfl, hb1⟩
      have hs1 : _ ≤ w1.heap.size := hb1.size
      try simp at hs1
      go_wp2_with fail
      refine (WI.out _).mono ?_
      rintro e w2 ⟨rfl, hb2⟩
      have hs2 : _ ≤ w2.heap.size := hb2.size
      try simp at hs2
      go_wp2
      go_ret2
      exact ⟨(by first | (rw [E.out.1, E.out.2]; done) | (rw [E.out.1, E.out.2]; rfl) | (simp [E.out.1, E.out.2]; done)), belB⟩
theorem fixOf_up (v d : Int) (hv : InW v) (hd : In64 d) (w : World) : Calls Tryz.prog 93 #[.func (Fn.func 96) #[.agg #[.int .i64 (hiW v), .int .u64 (loW v), .int .i64 d]] #[]] w fun e w' =>
    e = .returned (.tuple #[.int .i64 (resI (okD d) (upW v d)), .bool (resB (okD d) (upW v d))]) ∧ Below w.heap.size w w' := by
  have C := Lib.hid (fun w => ratio_up v d hv hd w)
  have XI := Lib.hid (show InW (upW v d) from up_in hv)
  obtain ⟨x, hx⟩ : ∃ x, x = upW v d := ⟨_, rfl⟩
  rw [← hx] at C XI
  rw [← hx]
  have WI := Lib.hid (fun w => WideInt_any x XI.out w)
  clear hx XI
  obtain ⟨c, hc⟩ : ∃ c, c = okD d := ⟨_, rfl⟩
  rw [← hc] at C
  rw [← hc]
  clear hc hv hd
  by_cases s : In64 x
  · have O := okW_yes s
    have V := Lib.hid (intW_self s)
    clear s
    by_cases f : InF x
    · have F := okF_yes f
      cases c
      · have E := Lib.hid (res_none (c := false) (v := x) rfl)
        clear f
        go_enter Tryz.func93, Tryz.ntmps93
        go_wp2_with fail
        refine (C.out _).mono ?_
        rintro e w1 ⟨rfl, hb1⟩
        have hs1 : _ ≤ w1.heap.size := hb1.size
        try simp at hs1
        go_wp2_with fail
        refine (WI.out _).mono ?_
        rintro e w2 ⟨rfl, hb2⟩
        have hs2 : _ ≤ w2.heap.size := hb2.size
        try simp at hs2
        go_wp2
        go_ret2
        exact ⟨(by first | (rw [E.out.1, E.out.2]; done) | (rw [E.out.1, E.out.2]; rfl) | (simp [E.out.1, E.out.2]; done)), belB⟩
      · have E := Lib.hid (res_yes (c := true) rfl f)
        clear f
        go_enter Tryz.func93, Tryz.ntmps93
        go_wp2_with fail
        refine (C.out _).mono ?_
        rintro e w1 ⟨rfl, hb1⟩
        have hs1 : _ ≤ w1.heap.size := hb1.size
        try simp at hs1
        go_wp2_with fail
        refine (WI.out _).mono ?_
        rintro e w2 ⟨rfl, hb2⟩
        have hs2 : _ ≤ w2.heap.size := hb2.size
        try simp at hs2
        rw [V.out]
        go_wp2_with fail
        refine (ValidFix_any x _).mono ?_
        rintro e w3 ⟨rfl, rfl⟩
        go_wp2
        go_ret2
        exact ⟨(by first | (rw [E.out.1, E.out.2]; done) | (rw [E.out.1, E.out.2]; rfl) | (simp [E.out.1, E.out.2]; done)), belB⟩
    · have F := okF_no f
      have E := Lib.hid (res_over (c := c) f)
      clear f
      cases c
      · go_enter Tryz.func93, Tryz.ntmps93
        go_wp2_with fail
        refine (C.out _).mono ?_
        rintro e w1 ⟨rfl, hb1⟩
        have hs1 : _ ≤ w1.heap.size := hb1.size
        try simp at hs1
        go_wp2_with fail
        refine (WI.out _).mono ?_
        rintro e w2 ⟨rfl, hb2⟩
        have hs2 : _ ≤ w2.heap.size := hb2.size
        try simp at hs2
        go_wp2
        go_ret2
        exact ⟨(by first | (rw [E.out.1, E.out.2]; done) | (rw [E.out.1, E.out.2]; rfl) | (simp [E.out.1, E.out.2]; done)), belB⟩
      · go_enter Tryz.func93, Tryz.ntmps93
        go_wp2_with fail
        refine (C.out _).mono ?_
        rintro e w1 ⟨rfl, hb1⟩
        have hs1 : _ ≤ w1.heap.size := hb1.size
        try simp at hs1
        go_wp2_with fail
        refine (WI.out _).mono ?_
        rintro e w2 ⟨rfl, hb2⟩
        have hs2 : _ ≤ w2.heap.size := hb2.size
        try simp at hs2
        rw [V.out]
        go_wp2_with fail
        refine (ValidFix_any x _).mono ?_
        rintro e w3 ⟨rfl, rfl⟩
        go_wp2
        go_ret2
        exact ⟨(by first | (rw [E.out.1, E.out.2]; done) | (rw [E.out.1, E.out.2]; rfl) | (simp [E.out.1, E.out.2]; done)), belB⟩
  · have O := okW_no s
    have E := Lib.hid (res_over (c := c) (fun f : InF x => s (inF_64 f)))
    clear s
    cases c
    · go_enter Tryz.func93, Tryz.ntmps93
      go_wp2_with fail
      refine (C.out _).mono ?_
      rintro e w1 ⟨rfl, hb1⟩
      have hs1 : _ ≤ w1.heap.size := hb1.size
      try simp at hs1
      go_wp2_with fail
      refine (WI.out _).mono ?_
      rintro e w2 ⟨rfl, hb2⟩
      have hs2 : _ ≤ w2.heap.size := hb2.size
      try simp at hs2
      go_wp2
      go_ret2
      exact ⟨(by first | (rw [E.out.1, E.out.2]; done) | (rw [E.out.1, E.out.2]; rfl) | (simp [E.out.1, E.out.2]; done)), belB⟩
    · go_enter Tryz.func93, Tryz.ntmps93
      go_wp2_with fail
      refine (C.out _).mono ?_
      rintro e w1 ⟨rfl, hb1⟩
      have hs1 : _ ≤ w1.heap.size := hb1.size
      try simp at hs1
      go_wp2_with fail
      refine (WI.out _).mono ?_
      rintro e w2 ⟨rfl, hb2⟩
      have hs2 : _ ≤ w2.heap.size := hb2.size
      try simp at hs2
      go_wp2
      go_ret2
      exact ⟨(by first | (rw [E.out.1, E.out.2]; done) | (rw [E.out.1, E.out.2]; rfl) | (simp [E.out.1, E.out.2]; done)), belB⟩
theorem fixOf_rdown (a : Int) (h : In64 a) (h1 : a ≤ 1152921504606846976) (w : World) : Calls Tryz.prog 93 #[.func (Fn.func 152) #[.agg #[.int .i64 a, .int .i64 4294967296]] #[]] w fun e w' =>
    e = .returned (.tuple #[.int .i64 (resI (decide (0 ≤ a)) (rtD a)), .bool (resB (decide (0 ≤ a)) (rtD a))]) ∧ Below w.heap.size w w' := by
  have C := Lib.hid (fun w => root_down a h h1 w)
  have XI := Lib.hid (show InW (rtD a) from by have := rtD_in h1; unfold InW; omega)
  obtain ⟨x, hx⟩ : ∃ x, x = rtD a := ⟨_, rfl⟩
  rw [← hx] at C XI
  rw [← hx]
  have WI := Lib.hid (fun w => WideInt_any x XI.out w)
  clear hx XI
  obtain ⟨c, hc⟩ : ∃ c, c = decide (0 ≤ a) := ⟨_, rfl⟩
  rw [← hc] at C
  rw [← hc]
  clear hc h h1
  by_cases s : In64 x
  · have O := okW_yes s
    have V := Lib.hid (intW_self s)
    clear s
    by_cases f : InF x
    · have F := okF_yes f
      cases c
      · have E := Lib.hid (res_none (c := false) (v := x) rfl)
        clear f
        go_enter Tryz.func93, Tryz.ntmps93
        go_wp2_with fail
        refine (C.out _).mono ?_
        rintro e w1 ⟨rfl, hb1⟩
        have hs1 : _ ≤ w1.heap.size := hb1.size
        try simp at hs1
        go_wp2_with fail
        refine (WI.out _).mono ?_
        rintro e w2 ⟨rfl, hb2⟩
        have hs2 : _ ≤ w2.heap.size := hb2.size
        try simp at hs2
        go_wp2
        go_ret2
        exact ⟨(by first | (rw [E.out.1, E.out.2]; done) | (rw [E.out.1, E.out.2]; rfl) | (simp [E.out.1, E.out.2]; done)), belB⟩
      · have E := Lib.hid (res_yes (c := true) rfl f)
        clear f
        go_enter Tryz.func93, Tryz.ntmps93
        go_wp2_with fail
        refine (C.out _).mono ?_
        rintro e w1 ⟨rfl, hb1⟩
        have hs1 : _ ≤ w1.heap.size := hb1.size
        try simp at hs1
        go_wp2_with fail
        refine (WI.out _).mono ?_
        rintro e w2 ⟨rfl, hb2⟩
        have hs2 : _ ≤ w2.heap.size := hb2.size
        try simp at hs2
        rw [V.out]
        go_wp2_with fail
        refine (ValidFix_any x _).mono ?_
        rintro e w3 ⟨rfl, rfl⟩
        go_wp2
        go_ret2
        exact ⟨(by first | (rw [E.out.1, E.out.2]; done) | (rw [E.out.1, E.out.2]; rfl) | (simp [E.out.1, E.out.2]; done)), belB⟩
    · have F := okF_no f
      have E := Lib.hid (res_over (c := c) f)
      clear f
      cases c
      · go_enter Tryz.func93, Tryz.ntmps93
        go_wp2_with fail
        refine (C.out _).mono ?_
        rintro e w1 ⟨rfl, hb1⟩
        have hs1 : _ ≤ w1.heap.size := hb1.size
        try simp at hs1
        go_wp2_with fail
        refine (WI.out _).mono ?_
        rintro e w2 ⟨rfl, hb2⟩
        have hs2 : _ ≤ w2.heap.size := hb2.size
        try simp at hs2
        go_wp2
        go_ret2
        exact ⟨(by first | (rw [E.out.1, E.out.2]; done) | (rw [E.out.1, E.out.2]; rfl) | (simp [E.out.1, E.out.2]; done)), belB⟩
      · go_enter Tryz.func93, Tryz.ntmps93
        go_wp2_with fail
        refine (C.out _).mono ?_
        rintro e w1 ⟨rfl, hb1⟩
        have hs1 : _ ≤ w1.heap.size := hb1.size
        try simp at hs1
        go_wp2_with fail
        refine (WI.out _).mono ?_
        rintro e w2 ⟨rfl, hb2⟩
        have hs2 : _ ≤ w2.heap.size := hb2.size
        try simp at hs2
        rw [V.out]
        go_wp2_with fail
        refine (ValidFix_any x _).mono ?_
        rintro e w3 ⟨rfl, rfl⟩
        go_wp2
        go_ret2
        exact ⟨(by first | (rw [E.out.1, E.out.2]; done) | (rw [E.out.1, E.out.2]; rfl) | (simp [E.out.1, E.out.2]; done)), belB⟩
  · have O := okW_no s
    have E := Lib.hid (res_over (c := c) (fun f : InF x => s (inF_64 f)))
    clear s
    cases c
    · go_enter Tryz.func93, Tryz.ntmps93
      go_wp2_with fail
      refine (C.out _).mono ?_
      rintro e w1 ⟨rfl, hb1⟩
      have hs1 : _ ≤ w1.heap.size := hb1.size
      try simp at hs1
      go_wp2_with fail
      refine (WI.out _).mono ?_
      rintro e w2 ⟨rfl, hb2⟩
      have hs2 : _ ≤ w2.heap.size := hb2.size
      try simp at hs2
      go_wp2
      go_ret2
      exact ⟨(by first | (rw [E.out.1, E.out.2]; done) | (rw [E.out.1, E.out.2]; rfl) | (simp [E.out.1, E.out.2]; done)), belB⟩
    · go_enter Tryz.func93, Tryz.ntmps93
      go_wp2_with fail
      refine (C.out _).mono ?_
      rintro e w1 ⟨rfl, hb1⟩
      have hs1 : _ ≤ w1.heap.size := hb1.size
      try simp at hs1
      go_wp2_with fail
      refine (WI.out _).mono ?_
      rintro e w2 ⟨rfl, hb2⟩
      have hs2 : _ ≤ w2.heap.size := hb2.size
      try simp at hs2
      go_wp2
      go_ret2
      exact ⟨(by first | (rw [E.out.1, E.out.2]; done) | (rw [E.out.1, E.out.2]; rfl) | (simp [E.out.1, E.out.2]; done)), belB⟩
theorem fixOf_rup (a : Int) (h : In64 a) (h1 : a ≤ 1152921504606846976) (w : World) : Calls Tryz.prog 93 #[.func (Fn.func 153) #[.agg #[.int .i64 a, .int .i64 4294967296]] #[]] w fun e w' =>
    e = .returned (.tuple #[.int .i64 (resI (decide (0 ≤ a)) (rtU a)), .bool (resB (decide (0 ≤ a)) (rtU a))]) ∧ Below w.heap.size w w' := by
  have C := Lib.hid (fun w => root_up a h h1 w)
  have XI := Lib.hid (show InW (rtU a) from by have := rtU_in h1; unfold InW; omega)
  obtain ⟨x, hx⟩ : ∃ x, x = rtU a := ⟨_, rfl⟩
  rw [← hx] at C XI
  rw [← hx]
  have WI := Lib.hid (fun w => WideInt_any x XI.out w)
  clear hx XI
  obtain ⟨c, hc⟩ : ∃ c, c = decide (0 ≤ a) := ⟨_, rfl⟩
  rw [← hc] at C
  rw [← hc]
  clear hc h h1
  by_cases s : In64 x
  · have O := okW_yes s
    have V := Lib.hid (intW_self s)
    clear s
    by_cases f : InF x
    · have F := okF_yes f
      cases c
      · have E := Lib.hid (res_none (c := false) (v := x) rfl)
        clear f
        go_enter Tryz.func93, Tryz.ntmps93
        go_wp2_with fail
        refine (C.out _).mono ?_
        rintro e w1 ⟨rfl, hb1⟩
        have hs1 : _ ≤ w1.heap.size := hb1.size
        try simp at hs1
        go_wp2_with fail
        refine (WI.out _).mono ?_
        rintro e w2 ⟨rfl, hb2⟩
        have hs2 : _ ≤ w2.heap.size := hb2.size
        try simp at hs2
        go_wp2
        go_ret2
        exact ⟨(by first | (rw [E.out.1, E.out.2]; done) | (rw [E.out.1, E.out.2]; rfl) | (simp [E.out.1, E.out.2]; done)), belB⟩
      · have E := Lib.hid (res_yes (c := true) rfl f)
        clear f
        go_enter Tryz.func93, Tryz.ntmps93
        go_wp2_with fail
        refine (C.out _).mono ?_
        rintro e w1 ⟨rfl, hb1⟩
        have hs1 : _ ≤ w1.heap.size := hb1.size
        try simp at hs1
        go_wp2_with fail
        refine (WI.out _).mono ?_
        rintro e w2 ⟨rfl, hb2⟩
        have hs2 : _ ≤ w2.heap.size := hb2.size
        try simp at hs2
        rw [V.out]
        go_wp2_with fail
        refine (ValidFix_any x _).mono ?_
        rintro e w3 ⟨rfl, rfl⟩
        go_wp2
        go_ret2
        exact ⟨(by first | (rw [E.out.1, E.out.2]; done) | (rw [E.out.1, E.out.2]; rfl) | (simp [E.out.1, E.out.2]; done)), belB⟩
    · have F := okF_no f
      have E := Lib.hid (res_over (c := c) f)
      clear f
      cases c
      · go_enter Tryz.func93, Tryz.ntmps93
        go_wp2_with fail
        refine (C.out _).mono ?_
        rintro e w1 ⟨rfl, hb1⟩
        have hs1 : _ ≤ w1.heap.size := hb1.size
        try simp at hs1
        go_wp2_with fail
        refine (WI.out _).mono ?_
        rintro e w2 ⟨rfl, hb2⟩
        have hs2 : _ ≤ w2.heap.size := hb2.size
        try simp at hs2
        go_wp2
        go_ret2
        exact ⟨(by first | (rw [E.out.1, E.out.2]; done) | (rw [E.out.1, E.out.2]; rfl) | (simp [E.out.1, E.out.2]; done)), belB⟩
      · go_enter Tryz.func93, Tryz.ntmps93
        go_wp2_with fail
        refine (C.out _).mono ?_
        rintro e w1 ⟨rfl, hb1⟩
        have hs1 : _ ≤ w1.heap.size := hb1.size
        try simp at hs1
        go_wp2_with fail
        refine (WI.out _).mono ?_
        rintro e w2 ⟨rfl, hb2⟩
        have hs2 : _ ≤ w2.heap.size := hb2.size
        try simp at hs2
        rw [V.out]
        go_wp2_with fail
        refine (ValidFix_any x _).mono ?_
        rintro e w3 ⟨rfl, rfl⟩
        go_wp2
        go_ret2
        exact ⟨(by first | (rw [E.out.1, E.out.2]; done) | (rw [E.out.1, E.out.2]; rfl) | (simp [E.out.1, E.out.2]; done)), belB⟩
  · have O := okW_no s
    have E := Lib.hid (res_over (c := c) (fun f : InF x => s (inF_64 f)))
    clear s
    cases c
    · go_enter Tryz.func93, Tryz.ntmps93
      go_wp2_with fail
      refine (C.out _).mono ?_
      rintro e w1 ⟨rfl, hb1⟩
      have hs1 : _ ≤ w1.heap.size := hb1.size
      try simp at hs1
      go_wp2_with fail
      refine (WI.out _).mono ?_
      rintro e w2 ⟨rfl, hb2⟩
      have hs2 : _ ≤ w2.heap.size := hb2.size
      try simp at hs2
      go_wp2
      go_ret2
      exact ⟨(by first | (rw [E.out.1, E.out.2]; done) | (rw [E.out.1, E.out.2]; rfl) | (simp [E.out.1, E.out.2]; done)), belB⟩
    · go_enter Tryz.func93, Tryz.ntmps93
      go_wp2_with fail
      refine (C.out _).mono ?_
      rintro e w1 ⟨rfl, hb1⟩
      have hs1 : _ ≤ w1.heap.size := hb1.size
      try simp at hs1
      go_wp2_with fail
      refine (WI.out _).mono ?_
      rintro e w2 ⟨rfl, hb2⟩
      have hs2 : _ ≤ w2.heap.size := hb2.size
      try simp at hs2
      go_wp2
      go_ret2
      exact ⟨(by first | (rw [E.out.1, E.out.2]; done) | (rw [E.out.1, E.out.2]; rfl) | (simp [E.out.1, E.out.2]; done)), belB⟩
end Go.Proofs.YtnnanbaldcjfiaaGreatDoor
