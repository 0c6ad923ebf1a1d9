/- Contracts of exact roots and of the choice of a fix. Conditions: numbers are int64. -/
import Derived.Test.YtmikjgbojknlnaaFixA
import Derived.Outline
namespace Go.Proofs.Ytmikjgbojknlnaa
open Go.ChangeShapes Go.WideShapes Go.ChangeAt Go.RowKit
set_option linter.unusedVariables false
set_option maxRecDepth 100000
set_option linter.unusedSimpArgs false
set_option maxHeartbeats 1000000

theorem sf_unit {a : Int} (h : In64 a) (h1 : a ≤ 1152921504606846976) : sfI a 4294967296 = rtD a ∧ sfB a 4294967296 = decide (0 ≤ a) := by
  have b := rtD_in h1
  unfold sfI sfB
  by_cases s : a < 0
  · rw [if_pos (.inl s)]
    exact ⟨(if_pos s).symm, by simp; first | done | omega⟩
  · rw [if_neg (by omega)]
    have e : rtD a = (rootW (a * 4294967296).toNat : Int) := if_neg s
    rw [← e]
    exact ⟨wrap64_self (by unfold In64; omega), by simp; first | done | omega⟩
/-- The root of a wide integer, rounded up. -/
def sqU (v : Int) : Int := if sqW v * sqW v = v then sqW v else sqW v + 1
theorem sqW_in {v : Int} (h : v < 21267647932558653966460912964485513216) : 0 ≤ sqW v ∧ sqW v < 4611686018427387904 := by
  unfold sqW
  split
  · omega
  · have s := rootW_spec (m := v.toNat) (by omega)
    generalize rootW v.toNat = r at *
    have h1 : ((r * r : Nat) : Int) ≤ v := by have := s.1; omega
    rw [Int.natCast_mul] at h1
    refine ⟨by omega, ?_⟩
    by_cases c : (r : Int) < 4611686018427387904
    · exact c
    · exfalso
      have c1 : (4611686018427387904 : Int) ≤ r := by omega
      have := Int.mul_le_mul c1 c1 (by omega) (by omega)
      omega
theorem sqW_unit (a : Int) : sqW (a * 4294967296) = rtD a ∧ sqOk (a * 4294967296) = decide (0 ≤ a) := by
  unfold sqW rtD sqOk
  refine ⟨?_, by rw [Bool.eq_iff_iff]; simp; omega⟩
  by_cases s : a < 0
  · rw [if_pos s, if_pos (by omega)]
  · rw [if_neg s, if_neg (by omega)]
theorem sqU_unit (a : Int) : sqU (a * 4294967296) = rtU a := by unfold sqU rtU; rw [(sqW_unit a).1]
theorem root_down (v : Int) (hv : InW v) (h1 : v < 21267647932558653966460912964485513216) (w : World) : Calls Try.prog 133 #[.agg #[.int .i64 (hiW v), .int .u64 (loW v)]] w fun e w' =>
    e = .returned (.tuple #[.agg #[.int .i64 (hiW (sqW v)), .int .u64 (loW (sqW v))], .bool (sqOk v)]) ∧ Below w.heap.size w w' := by
  have C := Lib.hid (fun w => WideSqrt_any v hv w)
  have B := sqW_in h1
  obtain ⟨r, hr⟩ : ∃ r, r = sqW v := ⟨_, rfl⟩
  rw [← hr] at C B
  rw [← hr]
  clear hr hv h1
  have W1 : IntKind.i64.wrap r = r := by rw [IntKind.wrap_i64]; omega
  have W2 : wrap64 r = r := by rw [wrap64_def]; omega
  have D := Lib.hid (fun w => WideOf_any r (by unfold In64; omega) w)
  clear B
  go_enter Try.func133, Try.ntmps133
  go_wp2_with fail
  refine (C.out _).mono ?_
  rintro e w1 ⟨rfl, hb1⟩
  have hs1 : _ ≤ w1.heap.size := hb1.size
  try simp at hs1
  go_wp2_with fail
  refine (D.out _).mono ?_
  rintro e w2 ⟨rfl, hb2⟩
  have hs2 : _ ≤ w2.heap.size := hb2.size
  try simp at hs2
  have o_j0 : Own (w2) (w.heap.size + 1) 0 (.int .i64 0) := ownJ; obtain ⟨j0, f_j0⟩ := o_j0; have o_j1 : Own (w2) (w.heap.size + 1) 1 (.int .u64 0) := ownJ; obtain ⟨j1, f_j1⟩ := o_j1
  go_wp2
  exact bodyPost_ret (v := .tuple #[.agg #[.int .i64 (hiW r), .int .u64 (loW r)], .bool (sqOk v)]) (by simp [results, Try.results133, go_sem, j0, j1]) rfl ⟨rfl, belB⟩
theorem root_up (v : Int) (hv : InW v) (h1 : v < 21267647932558653966460912964485513216) (w : World) : Calls Try.prog 134 #[.agg #[.int .i64 (hiW v), .int .u64 (loW v)]] w fun e w' =>
    e = .returned (.tuple #[.agg #[.int .i64 (hiW (sqU v)), .int .u64 (loW (sqU v))], .bool (sqOk v)]) ∧ Below w.heap.size w w' := by
  have C := Lib.hid (fun w => WideSqrt_any v hv w)
  have B := sqW_in h1
  have hu : sqU v = if sqW v * sqW v = v then sqW v else sqW v + 1 := rfl
  obtain ⟨r, hr⟩ : ∃ r, r = sqW v := ⟨_, rfl⟩
  rw [← hr] at C B hu
  have R := Lib.hid (show In64 r by unfold In64; omega)
  have M := Lib.hid (fun w => WideMul_any r r R.out R.out w)
  have W1 : IntKind.i64.wrap r = r := by rw [IntKind.wrap_i64]; omega
  have W2 : wrap64 r = r := by rw [wrap64_def]; omega
  have W3 : IntKind.i64.wrap (r + 1) = r + 1 := by rw [IntKind.wrap_i64]; omega
  have W4 : wrap64 (r + 1) = r + 1 := by rw [wrap64_def]; omega
  by_cases e : r * r = v
  · have U := Lib.hid (hu.trans (if_pos e))
    have e0 : (hiW (r * r) == hiW v) = true := by simp [e]
    have e1 : (loW (r * r) == loW v) = true := by simp [e]
    have D := Lib.hid (fun w => WideOf_any r R.out w)
    clear e hu hr B hv h1
    go_enter Try.func134, Try.ntmps134
    go_wp2_with fail
    refine (C.out _).mono ?_
    rintro e w1 ⟨rfl, hb1⟩
    have hs1 : _ ≤ w1.heap.size := hb1.size
    try simp at hs1
    have o_p0 : Own (w1) (w.heap.size) 0 (.int .i64 (hiW v)) := ownJ; obtain ⟨p0, f_p0⟩ := o_p0; have o_p1 : Own (w1) (w.heap.size) 1 (.int .u64 (loW v)) := ownJ; obtain ⟨p1, f_p1⟩ := o_p1
    go_wp2_with fail
    obtain ⟨hlt2, hlt3, hlt4, hlt5, hlt6, hlt7, hlt8, hlt9, hlt10, hlt11⟩ := below_add; go_region_held3 (fun w' => w'.cell? ⟨w.heap.size, 0, none⟩ = some (.int .i64 (hiW v)) ∧ w'.cell? ⟨w.heap.size, 1, none⟩ = some (.int .u64 (loW v))) (first | (with_reducible exact ((And.imp (cell_kept (by assumption)) (cell_kept (by assumption))) (by assumption))) | (with_reducible exact ((And.imp (cell_alloc) (cell_alloc)) (by assumption))) | (with_reducible exact ((And.imp (fun h => cell_far (by first | (simp; done) | (simp; omega)) (cell_far (by first | (simp; done) | (simp; omega)) h)) (fun h => cell_far (by first | (simp; done) | (simp; omega)) (cell_far (by first | (simp; done) | (simp; omega)) h))) (by assumption))) | (refine ⟨?_, ?_⟩ <;> repeat (first | (with_reducible assumption) | (with_reducible refine cell_far (by first | (simp; done) | (simp; omega)) ?_) | (with_reducible refine cell_drew ?_) | (with_reducible refine cell_drewN ?_) | (with_reducible refine cell_kept (by assumption) ?_) | (simp [go_sem]; done) | (with_reducible refine cell_alloc ?_))) | (simp [go_sem, *]; done)) ((go_at_call 175; refine (M.out _).mono ?_; rintro e w1 ⟨rfl, hb⟩; have hs : _ ≤ w1.heap.size := hb.size; (try simp at hs); obtain ⟨hc, hf, hl, hn, hm⟩ := behind hb))
    go_wp2_with fail
    refine (D.out _).mono ?_
    rintro e w4 ⟨rfl, hb4⟩
    have hs4 : _ ≤ w4.heap.size := hb4.size
    try simp at hs4
    have o_j0 : Own (w4) (w.heap.size + 1) 0 (.int .i64 0) := ownJ; obtain ⟨j0, f_j0⟩ := o_j0; have o_j1 : Own (w4) (w.heap.size + 1) 1 (.int .u64 0) := ownJ; obtain ⟨j1, f_j1⟩ := o_j1
    go_wp2
    exact bodyPost_ret (v := .tuple #[.agg #[.int .i64 (hiW r), .int .u64 (loW r)], .bool (sqOk v)]) (by simp [results, Try.results134, go_sem, j0, j1]) rfl ⟨(by first | (rw [U.out]; done) | (rw [U.out]; rfl) | (simp [U.out]; done)), belB⟩
  · have U := Lib.hid (hu.trans (if_neg e))
    have D := Lib.hid (fun w => WideOf_any (r + 1) (by unfold In64; omega) w)
    by_cases f : hiW (r * r) = hiW v
    · have e0 : (hiW (r * r) == hiW v) = true := by simpa using f
      have e1 : (loW (r * r) == loW v) = false := by
        rw [Bool.eq_false_iff]; intro g; exact e (same_hl f (by simpa using g))
      clear e f hu hr B hv h1
      go_enter Try.func134, Try.ntmps134
      go_wp2_with fail
      refine (C.out _).mono ?_
      rintro e w1 ⟨rfl, hb1⟩
      have hs1 : _ ≤ w1.heap.size := hb1.size
      try simp at hs1
      have o_p0 : Own (w1) (w.heap.size) 0 (.int .i64 (hiW v)) := ownJ; obtain ⟨p0, f_p0⟩ := o_p0; have o_p1 : Own (w1) (w.heap.size) 1 (.int .u64 (loW v)) := ownJ; obtain ⟨p1, f_p1⟩ := o_p1
      go_wp2_with fail
      obtain ⟨hlt2, hlt3, hlt4, hlt5, hlt6, hlt7, hlt8, hlt9, hlt10, hlt11⟩ := below_add; go_region_held3 (fun w' => w'.cell? ⟨w.heap.size, 0, none⟩ = some (.int .i64 (hiW v)) ∧ w'.cell? ⟨w.heap.size, 1, none⟩ = some (.int .u64 (loW v))) (first | (with_reducible exact ((And.imp (cell_kept (by assumption)) (cell_kept (by assumption))) (by assumption))) | (with_reducible exact ((And.imp (cell_alloc) (cell_alloc)) (by assumption))) | (with_reducible exact ((And.imp (fun h => cell_far (by first | (simp; done) | (simp; omega)) (cell_far (by first | (simp; done) | (simp; omega)) h)) (fun h => cell_far (by first | (simp; done) | (simp; omega)) (cell_far (by first | (simp; done) | (simp; omega)) h))) (by assumption))) | (refine ⟨?_, ?_⟩ <;> repeat (first | (with_reducible assumption) | (with_reducible refine cell_far (by first | (simp; done) | (simp; omega)) ?_) | (with_reducible refine cell_drew ?_) | (with_reducible refine cell_drewN ?_) | (with_reducible refine cell_kept (by assumption) ?_) | (simp [go_sem]; done) | (with_reducible refine cell_alloc ?_))) | (simp [go_sem, *]; done)) ((go_at_call 175; refine (M.out _).mono ?_; rintro e w1 ⟨rfl, hb⟩; have hs : _ ≤ w1.heap.size := hb.size; (try simp at hs); obtain ⟨hc, hf, hl, hn, hm⟩ := behind hb))
      go_wp2_with fail
      refine (D.out _).mono ?_
      rintro e w4 ⟨rfl, hb4⟩
      have hs4 : _ ≤ w4.heap.size := hb4.size
      try simp at hs4
      have o_j0 : Own (w4) (w.heap.size + 1) 0 (.int .i64 0) := ownJ; obtain ⟨j0, f_j0⟩ := o_j0; have o_j1 : Own (w4) (w.heap.size + 1) 1 (.int .u64 0) := ownJ; obtain ⟨j1, f_j1⟩ := o_j1
      go_wp2
      exact bodyPost_ret (v := .tuple #[.agg #[.int .i64 (hiW (r + 1)), .int .u64 (loW (r + 1))], .bool (sqOk v)]) (by simp [results, Try.results134, go_sem, j0, j1]) rfl ⟨(by first | (rw [U.out]; done) | (rw [U.out]; rfl) | (simp [U.out]; done)), belB⟩
    · have e0 : (hiW (r * r) == hiW v) = false := by simpa using f
      clear e f hu hr B hv h1
      go_enter Try.func134, Try.ntmps134
      go_wp2_with fail
      refine (C.out _).mono ?_
      rintro e w1 ⟨rfl, hb1⟩
      have hs1 : _ ≤ w1.heap.size := hb1.size
      try simp at hs1
      have o_p0 : Own (w1) (w.heap.size) 0 (.int .i64 (hiW v)) := ownJ; obtain ⟨p0, f_p0⟩ := o_p0; have o_p1 : Own (w1) (w.heap.size) 1 (.int .u64 (loW v)) := ownJ; obtain ⟨p1, f_p1⟩ := o_p1
      go_wp2_with fail
      obtain ⟨hlt2, hlt3, hlt4, hlt5, hlt6, hlt7, hlt8, hlt9, hlt10, hlt11⟩ := below_add; go_region_held3 (fun w' => w'.cell? ⟨w.heap.size, 0, none⟩ = some (.int .i64 (hiW v)) ∧ w'.cell? ⟨w.heap.size, 1, none⟩ = some (.int .u64 (loW v))) (first | (with_reducible exact ((And.imp (cell_kept (by assumption)) (cell_kept (by assumption))) (by assumption))) | (with_reducible exact ((And.imp (cell_alloc) (cell_alloc)) (by assumption))) | (with_reducible exact ((And.imp (fun h => cell_far (by first | (simp; done) | (simp; omega)) (cell_far (by first | (simp; done) | (simp; omega)) h)) (fun h => cell_far (by first | (simp; done) | (simp; omega)) (cell_far (by first | (simp; done) | (simp; omega)) h))) (by assumption))) | (refine ⟨?_, ?_⟩ <;> repeat (first | (with_reducible assumption) | (with_reducible refine cell_far (by first | (simp; done) | (simp; omega)) ?_) | (with_reducible refine cell_drew ?_) | (with_reducible refine cell_drewN ?_) | (with_reducible refine cell_kept (by assumption) ?_) | (simp [go_sem]; done) | (with_reducible refine cell_alloc ?_))) | (simp [go_sem, *]; done)) ((go_at_call 175; refine (M.out _).mono ?_; rintro e w1 ⟨rfl, hb⟩; have hs : _ ≤ w1.heap.size := hb.size; (try simp at hs); obtain ⟨hc, hf, hl, hn, hm⟩ := behind hb))
      go_wp2_with fail
      refine (D.out _).mono ?_
      rintro e w4 ⟨rfl, hb4⟩
      have hs4 : _ ≤ w4.heap.size := hb4.size
      try simp at hs4
      have o_j0 : Own (w4) (w.heap.size + 1) 0 (.int .i64 0) := ownJ; obtain ⟨j0, f_j0⟩ := o_j0; have o_j1 : Own (w4) (w.heap.size + 1) 1 (.int .u64 0) := ownJ; obtain ⟨j1, f_j1⟩ := o_j1
      go_wp2
      exact bodyPost_ret (v := .tuple #[.agg #[.int .i64 (hiW (r + 1)), .int .u64 (loW (r + 1))], .bool (sqOk v)]) (by simp [results, Try.results134, go_sem, j0, j1]) rfl ⟨(by first | (rw [U.out]; done) | (rw [U.out]; rfl) | (simp [U.out]; done)), belB⟩
theorem fixOf_down (v d : Int) (hv : InW v) (hd : In64 d) (w : World) : Calls Try.prog 131 #[.func (Fn.func 209) #[.agg #[.int .i64 (hiW v), .int .u64 (loW v), .int .i64 d]] #[]] w fun e w' =>
    e = .returned (.tuple #[.int .i64 (resI (okD d) (quoW v d)), .bool (resB (okD d) (quoW v d))]) ∧ Below w.heap.size w w' := by
  have C := Lib.hid (fun w => ratio_down v d hv hd w)
  have XI := Lib.hid (show InW (quoW v d) from quoW_in hv)
  obtain ⟨x, hx⟩ : ∃ x, x = quoW v d := ⟨_, rfl⟩
  rw [← hx] at C XI
  rw [← hx]
  have WI := Lib.hid (fun w => WideInt_any x XI.out w)
  clear hx XI
  obtain ⟨c, hc⟩ : ∃ c, c = okD d := ⟨_, rfl⟩
  rw [← hc] at C
  rw [← hc]
  clear hc hv hd
  by_cases s : In64 x
  · have O := okW_yes s
    have V := Lib.hid (intW_self s)
    clear s
    by_cases f : InF x
    · have F := okF_yes f
      cases c
      · have E := Lib.hid (res_none (c := false) (v := x) rfl)
        clear f
        go_enter Try.func131, Try.ntmps131
        go_wp2_with fail
        refine (C.out _).mono ?_
        rintro e w1 ⟨rfl, hb1⟩
        have hs1 : _ ≤ w1.heap.size := hb1.size
        try simp at hs1
        go_wp2_with fail
        refine (WI.out _).mono ?_
        rintro e w2 ⟨rfl, hb2⟩
        have hs2 : _ ≤ w2.heap.size := hb2.size
        try simp at hs2
        go_wp2
        go_ret2
        exact ⟨(by first | (rw [E.out.1, E.out.2]; done) | (rw [E.out.1, E.out.2]; rfl) | (simp [E.out.1, E.out.2]; done)), belB⟩
      · have E := Lib.hid (res_yes (c := true) rfl f)
        clear f
        go_enter Try.func131, Try.ntmps131
        go_wp2_with fail
        refine (C.out _).mono ?_
        rintro e w1 ⟨rfl, hb1⟩
        have hs1 : _ ≤ w1.heap.size := hb1.size
        try simp at hs1
        go_wp2_with fail
        refine (WI.out _).mono ?_
        rintro e w2 ⟨rfl, hb2⟩
        have hs2 : _ ≤ w2.heap.size := hb2.size
        try simp at hs2
        rw [V.out]
        go_wp2_with fail
        refine (ValidFix_any x _).mono ?_
        rintro e w3 ⟨rfl, rfl⟩
        go_wp2
        go_ret2
        exact ⟨(by first | (rw [E.out.1, E.out.2]; done) | (rw [E.out.1, E.out.2]; rfl) | (simp [E.out.1, E.out.2]; done)), belB⟩
    · have F := okF_no f
      have E := Lib.hid (res_over (c := c) f)
      clear f
      cases c
      · go_enter Try.func131, Try.ntmps131
        go_wp2_with fail
        refine (C.out _).mono ?_
        rintro e w1 ⟨rfl, hb1⟩
        have hs1 : _ ≤ w1.heap.size := hb1.size
        try simp at hs1
        go_wp2_with fail
        refine (WI.out _).mono ?_
        rintro e w2 ⟨rfl, hb2⟩
        have hs2 : _ ≤ w2.heap.size := hb2.size
        try simp at hs2
        go_wp2
        go_ret2
        exact ⟨(by first | (rw [E.out.1, E.out.2]; done) | (rw [E.out.1, E.out.2]; rfl) | (simp [E.out.1, E.out.2]; done)), belB⟩
      · go_enter Try.func131, Try.ntmps131
        go_wp2_with fail
        refine (C.out _).mono ?_
        rintro e w1 ⟨rfl, hb1⟩
        have hs1 : _ ≤ w1.heap.size := hb1.size
        try simp at hs1
        go_wp2_with fail
        refine (WI.out _).mono ?_
        rintro e w2 ⟨rfl, hb2⟩
        have hs2 : _ ≤ w2.heap.size := hb2.size
        try simp at hs2
        rw [V.out]
        go_wp2_with fail
        refine (ValidFix_any x _).mono ?_
        rintro e w3 ⟨rfl, rfl⟩
        go_wp2
        go_ret2
        exact ⟨(by first | (rw [E.out.1, E.out.2]; done) | (rw [E.out.1, E.out.2]; rfl) | (simp [E.out.1, E.out.2]; done)), belB⟩
  · have O := okW_no s
    have E := Lib.hid (res_over (c := c) (fun f : InF x => s (inF_64 f)))
    clear s
    cases c
    · go_enter Try.func131, Try.ntmps131
      go_wp2_with fail
      refine (C.out _).mono ?_
      rintro e w1 ⟨rfl, hb1⟩
      have hs1 : _ ≤ w1.heap.size := hb1.size
      try simp at hs1
      go_wp2_with fail
      refine (WI.out _).mono ?_
      rintro e w2 ⟨rfl, hb2⟩
      have hs2 : _ ≤ w2.heap.size := hb2.size
      try simp at hs2
      go_wp2
      go_ret2
      exact ⟨(by first | (rw [E.out.1, E.out.2]; done) | (rw [E.out.1, E.out.2]; rfl) | (simp [E.out.1, E.out.2]; done)), belB⟩
    · go_enter Try.func131, Try.ntmps131
      go_wp2_with fail
      refine (C.out _).mono ?_
      rintro e w1 ⟨rfl, hb1⟩
      have hs1 : _ ≤ w1.heap.size := hb1.size
      try simp at hs1
      go_wp2_with fail
      refine (WI.out _).mono ?_
      rintro e w2 ⟨rfl, hb2⟩
      have hs2 : _ ≤ w2.heap.size := hb2.size
      try simp at hs2
      go_wp2
      go_ret2
      exact ⟨(by first | (rw [E.out.1, E.out.2]; done) | (rw [E.out.1, E.out.2]; rfl) | (simp [E.out.1, E.out.2]; done)), belB⟩
theorem fixOf_up (v d : Int) (hv : InW v) (hd : In64 d) (w : World) : Calls Try.prog 131 #[.func (Fn.func 210) #[.agg #[.int .i64 (hiW v), .int .u64 (loW v), .int .i64 d]] #[]] w fun e w' =>
    e = .returned (.tuple #[.int .i64 (resI (okD d) (upW v d)), .bool (resB (okD d) (upW v d))]) ∧ Below w.heap.size w w' := by
  have C := Lib.hid (fun w => ratio_up v d hv hd w)
  have XI := Lib.hid (show InW (upW v d) from up_in hv)
  obtain ⟨x, hx⟩ : ∃ x, x = upW v d := ⟨_, rfl⟩
  rw [← hx] at C XI
  rw [← hx]
  have WI := Lib.hid (fun w => WideInt_any x XI.out w)
  clear hx XI
  obtain ⟨c, hc⟩ : ∃ c, c = okD d := ⟨_, rfl⟩
  rw [← hc] at C
  rw [← hc]
  clear hc hv hd
  by_cases s : In64 x
  · have O := okW_yes s
    have V := Lib.hid (intW_self s)
    clear s
    by_cases f : InF x
    · have F := okF_yes f
      cases c
      · have E := Lib.hid (res_none (c := false) (v := x) rfl)
        clear f
        go_enter Try.func131, Try.ntmps131
        go_wp2_with fail
        refine (C.out _).mono ?_
        rintro e w1 ⟨rfl, hb1⟩
        have hs1 : _ ≤ w1.heap.size := hb1.size
        try simp at hs1
        go_wp2_with fail
        refine (WI.out _).mono ?_
        rintro e w2 ⟨rfl, hb2⟩
        have hs2 : _ ≤ w2.heap.size := hb2.size
        try simp at hs2
        go_wp2
        go_ret2
        exact ⟨(by first | (rw [E.out.1, E.out.2]; done) | (rw [E.out.1, E.out.2]; rfl) | (simp [E.out.1, E.out.2]; done)), belB⟩
      · have E := Lib.hid (res_yes (c := true) rfl f)
        clear f
        go_enter Try.func131, Try.ntmps131
        go_wp2_with fail
        refine (C.out _).mono ?_
        rintro e w1 ⟨rfl, hb1⟩
        have hs1 : _ ≤ w1.heap.size := hb1.size
        try simp at hs1
        go_wp2_with fail
        refine (WI.out _).mono ?_
        rintro e w2 ⟨rfl, hb2⟩
        have hs2 : _ ≤ w2.heap.size := hb2.size
        try simp at hs2
        rw [V.out]
        go_wp2_with fail
        refine (ValidFix_any x _).mono ?_
        rintro e w3 ⟨rfl, rfl⟩
        go_wp2
        go_ret2
        exact ⟨(by first | (rw [E.out.1, E.out.2]; done) | (rw [E.out.1, E.out.2]; rfl) | (simp [E.out.1, E.out.2]; done)), belB⟩
    · have F := okF_no f
      have E := Lib.hid (res_over (c := c) f)
      clear f
      cases c
      · go_enter Try.func131, Try.ntmps131
        go_wp2_with fail
        refine (C.out _).mono ?_
        rintro e w1 ⟨rfl, hb1⟩
        have hs1 : _ ≤ w1.heap.size := hb1.size
        try simp at hs1
        go_wp2_with fail
        refine (WI.out _).mono ?_
        rintro e w2 ⟨rfl, hb2⟩
        have hs2 : _ ≤ w2.heap.size := hb2.size
        try simp at hs2
        go_wp2
        go_ret2
        exact ⟨(by first | (rw [E.out.1, E.out.2]; done) | (rw [E.out.1, E.out.2]; rfl) | (simp [E.out.1, E.out.2]; done)), belB⟩
      · go_enter Try.func131, Try.ntmps131
        go_wp2_with fail
        refine (C.out _).mono ?_
        rintro e w1 ⟨rfl, hb1⟩
        have hs1 : _ ≤ w1.heap.size := hb1.size
        try simp at hs1
        go_wp2_with fail
        refine (WI.out _).mono ?_
        rintro e w2 ⟨rfl, hb2⟩
        have hs2 : _ ≤ w2.heap.size := hb2.size
        try simp at hs2
        rw [V.out]
        go_wp2_with fail
        refine (ValidFix_any x _).mono ?_
        rintro e w3 ⟨rfl, rfl⟩
        go_wp2
        go_ret2
        exact ⟨(by first | (rw [E.out.1, E.out.2]; done) | (rw [E.out.1, E.out.2]; rfl) | (simp [E.out.1, E.out.2]; done)), belB⟩
  · have O := okW_no s
    have E := Lib.hid (res_over (c := c) (fun f : InF x => s (inF_64 f)))
    clear s
    cases c
    · go_enter Try.func131, Try.ntmps131
      go_wp2_with fail
      refine (C.out _).mono ?_
      rintro e w1 ⟨rfl, hb1⟩
      have hs1 : _ ≤ w1.heap.size := hb1.size
      try simp at hs1
      go_wp2_with fail
      refine (WI.out _).mono ?_
      rintro e w2 ⟨rfl, hb2⟩
      have hs2 : _ ≤ w2.heap.size := hb2.size
      try simp at hs2
      go_wp2
      go_ret2
      exact ⟨(by first | (rw [E.out.1, E.out.2]; done) | (rw [E.out.1, E.out.2]; rfl) | (simp [E.out.1, E.out.2]; done)), belB⟩
    · go_enter Try.func131, Try.ntmps131
      go_wp2_with fail
      refine (C.out _).mono ?_
      rintro e w1 ⟨rfl, hb1⟩
      have hs1 : _ ≤ w1.heap.size := hb1.size
      try simp at hs1
      go_wp2_with fail
      refine (WI.out _).mono ?_
      rintro e w2 ⟨rfl, hb2⟩
      have hs2 : _ ≤ w2.heap.size := hb2.size
      try simp at hs2
      go_wp2
      go_ret2
      exact ⟨(by first | (rw [E.out.1, E.out.2]; done) | (rw [E.out.1, E.out.2]; rfl) | (simp [E.out.1, E.out.2]; done)), belB⟩
theorem fixOf_rdown (v : Int) (h : InW v) (h1 : v < 21267647932558653966460912964485513216) (w : World) : Calls Try.prog 131 #[.func (Fn.func 133) #[.agg #[.int .i64 (hiW v), .int .u64 (loW v)]] #[]] w fun e w' =>
    e = .returned (.tuple #[.int .i64 (resI (sqOk v) (sqW v)), .bool (resB (sqOk v) (sqW v))]) ∧ Below w.heap.size w w' := by
  have C := Lib.hid (fun w => root_down v h h1 w)
  have XI := Lib.hid (show InW (sqW v) from by have := sqW_in h1; unfold InW; omega)
  obtain ⟨x, hx⟩ : ∃ x, x = sqW v := ⟨_, rfl⟩
  rw [← hx] at C XI
  rw [← hx]
  have WI := Lib.hid (fun w => WideInt_any x XI.out w)
  clear hx XI
  obtain ⟨c, hc⟩ : ∃ c, c = sqOk v := ⟨_, rfl⟩
  rw [← hc] at C
  rw [← hc]
  clear hc h h1
  by_cases s : In64 x
  · have O := okW_yes s
    have V := Lib.hid (intW_self s)
    clear s
    by_cases f : InF x
    · have F := okF_yes f
      cases c
      · have E := Lib.hid (res_none (c := false) (v := x) rfl)
        clear f
        go_enter Try.func131, Try.ntmps131
        go_wp2_with fail
        refine (C.out _).mono ?_
        rintro e w1 ⟨rfl, hb1⟩
        have hs1 : _ ≤ w1.heap.size := hb1.size
        try simp at hs1
        go_wp2_with fail
        refine (WI.out _).mono ?_
        rintro e w2 ⟨rfl, hb2⟩
        have hs2 : _ ≤ w2.heap.size := hb2.size
        try simp at hs2
        go_wp2
        go_ret2
        exact ⟨(by first | (rw [E.out.1, E.out.2]; done) | (rw [E.out.1, E.out.2]; rfl) | (simp [E.out.1, E.out.2]; done)), belB⟩
      · have E := Lib.hid (res_yes (c := true) rfl f)
        clear f
        go_enter Try.func131, Try.ntmps131
        go_wp2_with fail
        refine (C.out _).mono ?_
        rintro e w1 ⟨rfl, hb1⟩
        have hs1 : _ ≤ w1.heap.size := hb1.size
        try simp at hs1
        go_wp2_with fail
        refine (WI.out _).mono ?_
        rintro e w2 ⟨rfl, hb2⟩
        have hs2 : _ ≤ w2.heap.size := hb2.size
        try simp at hs2
        rw [V.out]
        go_wp2_with fail
        refine (ValidFix_any x _).mono ?_
        rintro e w3 ⟨rfl, rfl⟩
        go_wp2
        go_ret2
        exact ⟨(by first | (rw [E.out.1, E.out.2]; done) | (rw [E.out.1, E.out.2]; rfl) | (simp [E.out.1, E.out.2]; done)), belB⟩
    · have F := okF_no f
      have E := Lib.hid (res_over (c := c) f)
      clear f
      cases c
      · go_enter Try.func131, Try.ntmps131
        go_wp2_with fail
        refine (C.out _).mono ?_
        rintro e w1 ⟨rfl, hb1⟩
        have hs1 : _ ≤ w1.heap.size := hb1.size
        try simp at hs1
        go_wp2_with fail
        refine (WI.out _).mono ?_
        rintro e w2 ⟨rfl, hb2⟩
        have hs2 : _ ≤ w2.heap.size := hb2.size
        try simp at hs2
        go_wp2
        go_ret2
        exact ⟨(by first | (rw [E.out.1, E.out.2]; done) | (rw [E.out.1, E.out.2]; rfl) | (simp [E.out.1, E.out.2]; done)), belB⟩
      · go_enter Try.func131, Try.ntmps131
        go_wp2_with fail
        refine (C.out _).mono ?_
        rintro e w1 ⟨rfl, hb1⟩
        have hs1 : _ ≤ w1.heap.size := hb1.size
        try simp at hs1
        go_wp2_with fail
        refine (WI.out _).mono ?_
        rintro e w2 ⟨rfl, hb2⟩
        have hs2 : _ ≤ w2.heap.size := hb2.size
        try simp at hs2
        rw [V.out]
        go_wp2_with fail
        refine (ValidFix_any x _).mono ?_
        rintro e w3 ⟨rfl, rfl⟩
        go_wp2
        go_ret2
        exact ⟨(by first | (rw [E.out.1, E.out.2]; done) | (rw [E.out.1, E.out.2]; rfl) | (simp [E.out.1, E.out.2]; done)), belB⟩
  · have O := okW_no s
    have E := Lib.hid (res_over (c := c) (fun f : InF x => s (inF_64 f)))
    clear s
    cases c
    · go_enter Try.func131, Try.ntmps131
      go_wp2_with fail
      refine (C.out _).mono ?_
      rintro e w1 ⟨rfl, hb1⟩
      have hs1 : _ ≤ w1.heap.size := hb1.size
      try simp at hs1
      go_wp2_with fail
      refine (WI.out _).mono ?_
      rintro e w2 ⟨rfl, hb2⟩
      have hs2 : _ ≤ w2.heap.size := hb2.size
      try simp at hs2
      go_wp2
      go_ret2
      exact ⟨(by first | (rw [E.out.1, E.out.2]; done) | (rw [E.out.1, E.out.2]; rfl) | (simp [E.out.1, E.out.2]; done)), belB⟩
    · go_enter Try.func131, Try.ntmps131
      go_wp2_with fail
      refine (C.out _).mono ?_
      rintro e w1 ⟨rfl, hb1⟩
      have hs1 : _ ≤ w1.heap.size := hb1.size
      try simp at hs1
      go_wp2_with fail
      refine (WI.out _).mono ?_
      rintro e w2 ⟨rfl, hb2⟩
      have hs2 : _ ≤ w2.heap.size := hb2.size
      try simp at hs2
      go_wp2
      go_ret2
      exact ⟨(by first | (rw [E.out.1, E.out.2]; done) | (rw [E.out.1, E.out.2]; rfl) | (simp [E.out.1, E.out.2]; done)), belB⟩
theorem fixOf_rup (v : Int) (h : InW v) (h1 : v < 21267647932558653966460912964485513216) (w : World) : Calls Try.prog 131 #[.func (Fn.func 134) #[.agg #[.int .i64 (hiW v), .int .u64 (loW v)]] #[]] w fun e w' =>
    e = .returned (.tuple #[.int .i64 (resI (sqOk v) (sqU v)), .bool (resB (sqOk v) (sqU v))]) ∧ Below w.heap.size w w' := by
  have C := Lib.hid (fun w => root_up v h h1 w)
  have XI := Lib.hid (show InW (sqU v) from by have := sqW_in h1; unfold sqU InW; split <;> omega)
  obtain ⟨x, hx⟩ : ∃ x, x = sqU v := ⟨_, rfl⟩
  rw [← hx] at C XI
  rw [← hx]
  have WI := Lib.hid (fun w => WideInt_any x XI.out w)
  clear hx XI
  obtain ⟨c, hc⟩ : ∃ c, c = sqOk v := ⟨_, rfl⟩
  rw [← hc] at C
  rw [← hc]
  clear hc h h1
  by_cases s : In64 x
  · have O := okW_yes s
    have V := Lib.hid (intW_self s)
    clear s
    by_cases f : InF x
    · have F := okF_yes f
      cases c
      · have E := Lib.hid (res_none (c := false) (v := x) rfl)
        clear f
        go_enter Try.func131, Try.ntmps131
        go_wp2_with fail
        refine (C.out _).mono ?_
        rintro e w1 ⟨rfl, hb1⟩
        have hs1 : _ ≤ w1.heap.size := hb1.size
        try simp at hs1
        go_wp2_with fail
        refine (WI.out _).mono ?_
        rintro e w2 ⟨rfl, hb2⟩
        have hs2 : _ ≤ w2.heap.size := hb2.size
        try simp at hs2
        go_wp2
        go_ret2
        exact ⟨(by first | (rw [E.out.1, E.out.2]; done) | (rw [E.out.1, E.out.2]; rfl) | (simp [E.out.1, E.out.2]; done)), belB⟩
      · have E := Lib.hid (res_yes (c := true) rfl f)
        clear f
        go_enter Try.func131, Try.ntmps131
        go_wp2_with fail
        refine (C.out _).mono ?_
        rintro e w1 ⟨rfl, hb1⟩
        have hs1 : _ ≤ w1.heap.size := hb1.size
        try simp at hs1
        go_wp2_with fail
        refine (WI.out _).mono ?_
        rintro e w2 ⟨rfl, hb2⟩
        have hs2 : _ ≤ w2.heap.size := hb2.size
        try simp at hs2
        rw [V.out]
        go_wp2_with fail
        refine (ValidFix_any x _).mono ?_
        rintro e w3 ⟨rfl, rfl⟩
        go_wp2
        go_ret2
        exact ⟨(by first | (rw [E.out.1, E.out.2]; done) | (rw [E.out.1, E.out.2]; rfl) | (simp [E.out.1, E.out.2]; done)), belB⟩
    · have F := okF_no f
      have E := Lib.hid (res_over (c := c) f)
      clear f
      cases c
      · go_enter Try.func131, Try.ntmps131
        go_wp2_with fail
        refine (C.out _).mono ?_
        rintro e w1 ⟨rfl, hb1⟩
        have hs1 : _ ≤ w1.heap.size := hb1.size
        try simp at hs1
        go_wp2_with fail
        refine (WI.out _).mono ?_
        rintro e w2 ⟨rfl, hb2⟩
        have hs2 : _ ≤ w2.heap.size := hb2.size
        try simp at hs2
        go_wp2
        go_ret2
        exact ⟨(by first | (rw [E.out.1, E.out.2]; done) | (rw [E.out.1, E.out.2]; rfl) | (simp [E.out.1, E.out.2]; done)), belB⟩
      · go_enter Try.func131, Try.ntmps131
        go_wp2_with fail
        refine (C.out _).mono ?_
        rintro e w1 ⟨rfl, hb1⟩
        have hs1 : _ ≤ w1.heap.size := hb1.size
        try simp at hs1
        go_wp2_with fail
        refine (WI.out _).mono ?_
        rintro e w2 ⟨rfl, hb2⟩
        have hs2 : _ ≤ w2.heap.size := hb2.size
        try simp at hs2
        rw [V.out]
        go_wp2_with fail
        refine (ValidFix_any x _).mono ?_
        rintro e w3 ⟨rfl, rfl⟩
        go_wp2
        go_ret2
        exact ⟨(by first | (rw [E.out.1, E.out.2]; done) | (rw [E.out.1, E.out.2]; rfl) | (simp [E.out.1, E.out.2]; done)), belB⟩
  · have O := okW_no s
    have E := Lib.hid (res_over (c := c) (fun f : InF x => s (inF_64 f)))
    clear s
    cases c
    · go_enter Try.func131, Try.ntmps131
      go_wp2_with fail
      refine (C.out _).mono ?_
      rintro e w1 ⟨rfl, hb1⟩
      have hs1 : _ ≤ w1.heap.size := hb1.size
      try simp at hs1
      go_wp2_with fail
      refine (WI.out _).mono ?_
      rintro e w2 ⟨rfl, hb2⟩
      have hs2 : _ ≤ w2.heap.size := hb2.size
      try simp at hs2
      go_wp2
      go_ret2
      exact ⟨(by first | (rw [E.out.1, E.out.2]; done) | (rw [E.out.1, E.out.2]; rfl) | (simp [E.out.1, E.out.2]; done)), belB⟩
    · go_enter Try.func131, Try.ntmps131
      go_wp2_with fail
      refine (C.out _).mono ?_
      rintro e w1 ⟨rfl, hb1⟩
      have hs1 : _ ≤ w1.heap.size := hb1.size
      try simp at hs1
      go_wp2_with fail
      refine (WI.out _).mono ?_
      rintro e w2 ⟨rfl, hb2⟩
      have hs2 : _ ≤ w2.heap.size := hb2.size
      try simp at hs2
      go_wp2
      go_ret2
      exact ⟨(by first | (rw [E.out.1, E.out.2]; done) | (rw [E.out.1, E.out.2]; rfl) | (simp [E.out.1, E.out.2]; done)), belB⟩
end Go.Proofs.Ytmikjgbojknlnaa
