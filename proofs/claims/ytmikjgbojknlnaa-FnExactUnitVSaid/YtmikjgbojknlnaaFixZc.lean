/- Contracts of products and quotients of fixes in the program. Conditions: numbers are int64. Contracts of roots of fixes in the program. Conditions: numbers are int64. -/
import Derived.Test.YtmikjgbojknlnaaFixB
namespace Go.Proofs.Ytmikjgbojknlnaa
open Go.ChangeShapes Go.WideShapes Go.ChangeAt Go.RowKit
set_option linter.unusedVariables false
set_option maxRecDepth 100000
set_option linter.unusedSimpArgs false
set_option maxHeartbeats 1000000

theorem FixFloor_any (a b : Int) (ha : In64 a) (hb : In64 b) (w : World) : Calls Try.prog 195 #[.int .i64 a, .int .i64 b] w fun e w' =>
    e = .returned (.tuple #[.int .i64 (resI (okD b) (quoW (a * 4294967296) b)), .bool (resB (okD b) (quoW (a * 4294967296) b))]) ∧ Below w.heap.size w w' := by
  have M := Lib.hid (fun w => WideMul_any a 4294967296 ha (by unfold In64; omega) w)
  have F := Lib.hid (fun w => fixOf_down (a * 4294967296) b (mul_in ha (by unfold In64; omega)) hb w)
  go_enter Try.func195, Try.ntmps195
  go_wp2_with fail
  refine (M.out _).mono ?_
  rintro e w1 ⟨rfl, hb1⟩
  have hs1 : _ ≤ w1.heap.size := hb1.size
  try simp at hs1
  go_wp2_with fail
  refine (F.out _).mono ?_
  rintro e w2 ⟨rfl, hb2⟩
  have hs2 : _ ≤ w2.heap.size := hb2.size
  try simp at hs2
  go_wp2
  go_ret2
  exact ⟨rfl, belB⟩
theorem FixCeil_any (a b : Int) (ha : In64 a) (hb : In64 b) (w : World) : Calls Try.prog 196 #[.int .i64 a, .int .i64 b] w fun e w' =>
    e = .returned (.tuple #[.int .i64 (resI (okD b) (upW (a * 4294967296) b)), .bool (resB (okD b) (upW (a * 4294967296) b))]) ∧ Below w.heap.size w w' := by
  have M := Lib.hid (fun w => WideMul_any a 4294967296 ha (by unfold In64; omega) w)
  have F := Lib.hid (fun w => fixOf_up (a * 4294967296) b (mul_in ha (by unfold In64; omega)) hb w)
  go_enter Try.func196, Try.ntmps196
  go_wp2_with fail
  refine (M.out _).mono ?_
  rintro e w1 ⟨rfl, hb1⟩
  have hs1 : _ ≤ w1.heap.size := hb1.size
  try simp at hs1
  go_wp2_with fail
  refine (F.out _).mono ?_
  rintro e w2 ⟨rfl, hb2⟩
  have hs2 : _ ≤ w2.heap.size := hb2.size
  try simp at hs2
  go_wp2
  go_ret2
  exact ⟨rfl, belB⟩
def prV (a b : Int) : Int := if InF a ∧ InF b then a * b else 0
def prD (a b : Int) : Int := if InF a ∧ InF b then 4294967296 else 0
def qtV (a b : Int) : Int := if InF a ∧ InF b then (if b < 0 then -a * 4294967296 else a * 4294967296) else 0
def qtD (a b : Int) : Int := if InF a ∧ InF b then (if b < 0 then -b else b) else 0
theorem prV_in (a b : Int) : InW (prV a b) ∧ In64 (prD a b) := by
  unfold prV prD
  split
  · rename_i h; exact ⟨mul_fix h.1 h.2, by unfold In64; omega⟩
  · exact ⟨by unfold InW; omega, by unfold In64; omega⟩
theorem qtV_in (a b : Int) : InW (qtV a b) ∧ In64 (qtD a b) := by
  unfold qtV qtD
  split
  · rename_i h
    obtain ⟨h1, h2⟩ := h
    unfold InF at h1 h2
    split
    · exact ⟨by unfold InW; omega, by unfold In64; omega⟩
    · exact ⟨by unfold InW; omega, by unfold In64; omega⟩
  · exact ⟨by unfold InW; omega, by unfold In64; omega⟩
theorem pr_res (a b : Int) : resI (okD (prD a b)) (quoW (prV a b) (prD a b)) = resI (mdc a b) (a * b / 4294967296) ∧ resB (okD (prD a b)) (quoW (prV a b) (prD a b)) = resB (mdc a b) (a * b / 4294967296) := by
  unfold prV prD mdc
  by_cases h : InF a ∧ InF b
  · rw [if_pos h, if_pos h, decide_eq_true h]; exact ⟨rfl, rfl⟩
  · rw [if_neg h, if_neg h, decide_eq_false h]; exact ⟨rfl, rfl⟩
theorem pr_resU (a b : Int) : resI (okD (prD a b)) (upW (prV a b) (prD a b)) = resI (mdc a b) (cei (a * b) 4294967296) ∧ resB (okD (prD a b)) (upW (prV a b) (prD a b)) = resB (mdc a b) (cei (a * b) 4294967296) := by
  unfold prV prD mdc
  by_cases h : InF a ∧ InF b
  · rw [if_pos h, if_pos h, decide_eq_true h]; exact ⟨rfl, rfl⟩
  · rw [if_neg h, if_neg h, decide_eq_false h]; exact ⟨rfl, rfl⟩
theorem qt_cond {a b : Int} (h : InF a ∧ InF b) : okD (qtD a b) = dvc a b := by
  unfold okD qtD dvc
  rw [if_pos h, Bool.eq_iff_iff]
  simp only [decide_eq_true_eq]
  constructor
  · intro k; refine ⟨h.1, h.2, ?_⟩; intro e; subst e; simp at k
  · intro k; have := k.2.2; split <;> omega
theorem qt_none {a b : Int} (h : ¬ (InF a ∧ InF b)) : okD (qtD a b) = false ∧ dvc a b = false := by
  unfold okD qtD dvc
  rw [if_neg h]
  exact ⟨rfl, decide_eq_false (fun k => h ⟨k.1, k.2.1⟩)⟩
theorem qt_zero {v d : Int} (c : Bool) : resI (okD d) (quoW v d) = resI (okD d) (v / d) ∧ resB (okD d) (quoW v d) = resB (okD d) (v / d) := by
  unfold okD quoW
  by_cases k : 1 ≤ d
  · rw [if_pos k]; exact ⟨rfl, rfl⟩
  · rw [if_neg k, decide_eq_false k]; exact ⟨rfl, rfl⟩
theorem qt_zeroU {v d : Int} (c : Bool) : resI (okD d) (upW v d) = resI (okD d) (cei v d) ∧ resB (okD d) (upW v d) = resB (okD d) (cei v d) := by
  unfold okD upW
  by_cases k : 1 ≤ d
  · rw [if_pos k]; exact ⟨rfl, rfl⟩
  · rw [if_neg k, decide_eq_false k]; exact ⟨rfl, rfl⟩
theorem qt_res (a b : Int) : resI (okD (qtD a b)) (quoW (qtV a b) (qtD a b)) = resI (dvc a b) (dvD a b) ∧ resB (okD (qtD a b)) (quoW (qtV a b) (qtD a b)) = resB (dvc a b) (dvD a b) := by
  by_cases h : InF a ∧ InF b
  · rw [(qt_zero true).1, (qt_zero true).2, qt_cond h]
    unfold qtV qtD dvD
    rw [if_pos h, if_pos h]
    split <;> exact ⟨rfl, rfl⟩
  · rw [(qt_none h).1, (qt_none h).2]
    exact ⟨rfl, rfl⟩
theorem qt_resU (a b : Int) : resI (okD (qtD a b)) (upW (qtV a b) (qtD a b)) = resI (dvc a b) (dvU a b) ∧ resB (okD (qtD a b)) (upW (qtV a b) (qtD a b)) = resB (dvc a b) (dvU a b) := by
  by_cases h : InF a ∧ InF b
  · rw [(qt_zeroU true).1, (qt_zeroU true).2, qt_cond h]
    unfold qtV qtD dvU
    rw [if_pos h, if_pos h]
    split <;> exact ⟨rfl, rfl⟩
  · rw [(qt_none h).1, (qt_none h).2]
    exact ⟨rfl, rfl⟩
theorem productOf_any (a b : Int) (ha : In64 a) (hb : In64 b) (w : World) : Calls Try.prog 208 #[.int .i64 a, .int .i64 b] w fun e w' =>
    e = .returned (.agg #[.int .i64 (hiW (prV a b)), .int .u64 (loW (prV a b)), .int .i64 (prD a b)]) ∧ Below w.heap.size w w' := by
  by_cases fa : InF a
  · have O1 := okF_yes fa
    by_cases fb : InF b
    · have O2 := okF_yes fb
      have E1 := Lib.hid (show prV a b = a * b from if_pos ⟨fa, fb⟩)
      have E2 := Lib.hid (show prD a b = 4294967296 from if_pos ⟨fa, fb⟩)
      have M := Lib.hid (fun w => WideMul_any a b ha hb w)
      clear fa fb ha hb
      go_enter Try.func208, Try.ntmps208
      go_wp2_with fail
      refine (ValidFix_any a _).mono ?_
      rintro e w0 ⟨rfl, rfl⟩
      go_wp2_with fail
      refine (ValidFix_any b _).mono ?_
      rintro e w0 ⟨rfl, rfl⟩
      go_wp2_with fail
      refine (M.out _).mono ?_
      rintro e w1 ⟨rfl, hb1⟩
      have hs1 : _ ≤ w1.heap.size := hb1.size
      try simp at hs1
      have o_j0 : Own (w1) (w.heap.size) 0 (.int .i64 0) := ownJ; obtain ⟨j0, f_j0⟩ := o_j0; have o_j1 : Own (w1) (w.heap.size) 1 (.int .u64 0) := ownJ; obtain ⟨j1, f_j1⟩ := o_j1; have o_j2 : Own (w1) (w.heap.size) 2 (.int .i64 0) := ownJ; obtain ⟨j2, f_j2⟩ := o_j2
      go_wp2
      exact bodyPost_ret (v := .agg #[.int .i64 (hiW (a * b)), .int .u64 (loW (a * b)), .int .i64 4294967296]) (by simp [results, Try.results208, go_sem, j0, j1, j2]) rfl ⟨(by first | (rw [E1.out, E2.out]; done) | (rw [E1.out, E2.out]; rfl) | (simp [E1.out, E2.out]; done)), belB⟩
    · have O2 := okF_no fb
      have E1 := Lib.hid (show prV a b = 0 from if_neg (fun h => fb h.2))
      have E2 := Lib.hid (show prD a b = 0 from if_neg (fun h => fb h.2))
      clear fa fb ha hb
      go_enter Try.func208, Try.ntmps208
      go_wp2_with fail
      refine (ValidFix_any a _).mono ?_
      rintro e w0 ⟨rfl, rfl⟩
      go_wp2_with fail
      refine (ValidFix_any b _).mono ?_
      rintro e w0 ⟨rfl, rfl⟩
      go_wp2
      exact bodyPost_ret (v := .agg #[.int .i64 0, .int .u64 0, .int .i64 0]) (by simp [results, Try.results208, go_sem]) rfl ⟨(by first | (rw [E1.out, E2.out]; done) | (rw [E1.out, E2.out]; rfl) | (simp [E1.out, E2.out]; done)), belB⟩
  · have O1 := okF_no fa
    have E1 := Lib.hid (show prV a b = 0 from if_neg (fun h => fa h.1))
    have E2 := Lib.hid (show prD a b = 0 from if_neg (fun h => fa h.1))
    clear fa ha hb
    go_enter Try.func208, Try.ntmps208
    go_wp2_with fail
    refine (ValidFix_any a _).mono ?_
    rintro e w0 ⟨rfl, rfl⟩
    go_wp2
    exact bodyPost_ret (v := .agg #[.int .i64 0, .int .u64 0, .int .i64 0]) (by simp [results, Try.results208, go_sem]) rfl ⟨(by first | (rw [E1.out, E2.out]; done) | (rw [E1.out, E2.out]; rfl) | (simp [E1.out, E2.out]; done)), belB⟩
theorem quotientOf_any (a b : Int) (ha : In64 a) (hb : In64 b) (w : World) : Calls Try.prog 220 #[.int .i64 a, .int .i64 b] w fun e w' =>
    e = .returned (.agg #[.int .i64 (hiW (qtV a b)), .int .u64 (loW (qtV a b)), .int .i64 (qtD a b)]) ∧ Below w.heap.size w w' := by
  by_cases fa : InF a
  · have O1 := okF_yes fa
    by_cases fb : InF b
    · have O2 := okF_yes fb
      by_cases s : b < 0
      · have E1 := Lib.hid (show qtV a b = -a * 4294967296 by unfold qtV; rw [if_pos ⟨fa, fb⟩, if_pos s])
        have E2 := Lib.hid (show qtD a b = -b by unfold qtD; rw [if_pos ⟨fa, fb⟩, if_pos s])
        obtain ⟨a0, a1⟩ := fa
        obtain ⟨b0, b1⟩ := fb
        have M := Lib.hid (fun w => WideMul_any (-a) 4294967296 (by unfold In64; omega) (by unfold In64; omega) w)
        clear ha hb
        go_enter Try.func220, Try.ntmps220
        go_wp2_with fail
        refine (ValidFix_any a _).mono ?_
        rintro e w0 ⟨rfl, rfl⟩
        go_wp2_with fail
        refine (ValidFix_any b _).mono ?_
        rintro e w0 ⟨rfl, rfl⟩
        go_wp2_with fail
        refine (M.out _).mono ?_
        rintro e w1 ⟨rfl, hb1⟩
        have hs1 : _ ≤ w1.heap.size := hb1.size
        try simp at hs1
        have o_j0 : Own (w1) (w.heap.size) 0 (.int .i64 0) := ownJ; obtain ⟨j0, f_j0⟩ := o_j0; have o_j1 : Own (w1) (w.heap.size) 1 (.int .u64 0) := ownJ; obtain ⟨j1, f_j1⟩ := o_j1; have o_j2 : Own (w1) (w.heap.size) 2 (.int .i64 0) := ownJ; obtain ⟨j2, f_j2⟩ := o_j2
        go_wp2
        exact bodyPost_ret (v := .agg #[.int .i64 (hiW (-a * 4294967296)), .int .u64 (loW (-a * 4294967296)), .int .i64 (-b)]) (by simp [results, Try.results220, go_sem, j0, j1, j2]) rfl ⟨(by first | (rw [E1.out, E2.out]; done) | (rw [E1.out, E2.out]; rfl) | (simp [E1.out, E2.out]; done)), belB⟩
      · have E1 := Lib.hid (show qtV a b = a * 4294967296 by unfold qtV; rw [if_pos ⟨fa, fb⟩, if_neg s])
        have E2 := Lib.hid (show qtD a b = b by unfold qtD; rw [if_pos ⟨fa, fb⟩, if_neg s])
        obtain ⟨a0, a1⟩ := fa
        obtain ⟨b0, b1⟩ := fb
        have M := Lib.hid (fun w => WideMul_any a 4294967296 (by unfold In64; omega) (by unfold In64; omega) w)
        clear ha hb
        go_enter Try.func220, Try.ntmps220
        go_wp2_with fail
        refine (ValidFix_any a _).mono ?_
        rintro e w0 ⟨rfl, rfl⟩
        go_wp2_with fail
        refine (ValidFix_any b _).mono ?_
        rintro e w0 ⟨rfl, rfl⟩
        go_wp2_with fail
        refine (M.out _).mono ?_
        rintro e w1 ⟨rfl, hb1⟩
        have hs1 : _ ≤ w1.heap.size := hb1.size
        try simp at hs1
        have o_j0 : Own (w1) (w.heap.size) 0 (.int .i64 0) := ownJ; obtain ⟨j0, f_j0⟩ := o_j0; have o_j1 : Own (w1) (w.heap.size) 1 (.int .u64 0) := ownJ; obtain ⟨j1, f_j1⟩ := o_j1; have o_j2 : Own (w1) (w.heap.size) 2 (.int .i64 0) := ownJ; obtain ⟨j2, f_j2⟩ := o_j2
        go_wp2
        exact bodyPost_ret (v := .agg #[.int .i64 (hiW (a * 4294967296)), .int .u64 (loW (a * 4294967296)), .int .i64 (b)]) (by simp [results, Try.results220, go_sem, j0, j1, j2]) rfl ⟨(by first | (rw [E1.out, E2.out]; done) | (rw [E1.out, E2.out]; rfl) | (simp [E1.out, E2.out]; done)), belB⟩
    · have O2 := okF_no fb
      have E1 := Lib.hid (show qtV a b = 0 from if_neg (fun h => fb h.2))
      have E2 := Lib.hid (show qtD a b = 0 from if_neg (fun h => fb h.2))
      clear fa fb ha hb
      go_enter Try.func220, Try.ntmps220
      go_wp2_with fail
      refine (ValidFix_any a _).mono ?_
      rintro e w0 ⟨rfl, rfl⟩
      go_wp2_with fail
      refine (ValidFix_any b _).mono ?_
      rintro e w0 ⟨rfl, rfl⟩
      go_wp2
      exact bodyPost_ret (v := .agg #[.int .i64 0, .int .u64 0, .int .i64 0]) (by simp [results, Try.results220, go_sem]) rfl ⟨(by first | (rw [E1.out, E2.out]; done) | (rw [E1.out, E2.out]; rfl) | (simp [E1.out, E2.out]; done)), belB⟩
  · have O1 := okF_no fa
    have E1 := Lib.hid (show qtV a b = 0 from if_neg (fun h => fa h.1))
    have E2 := Lib.hid (show qtD a b = 0 from if_neg (fun h => fa h.1))
    clear fa ha hb
    go_enter Try.func220, Try.ntmps220
    go_wp2_with fail
    refine (ValidFix_any a _).mono ?_
    rintro e w0 ⟨rfl, rfl⟩
    go_wp2
    exact bodyPost_ret (v := .agg #[.int .i64 0, .int .u64 0, .int .i64 0]) (by simp [results, Try.results220, go_sem]) rfl ⟨(by first | (rw [E1.out, E2.out]; done) | (rw [E1.out, E2.out]; rfl) | (simp [E1.out, E2.out]; done)), belB⟩
theorem MulDown_any (a b : Int) (ha : In64 a) (hb : In64 b) (w : World) : Calls Try.prog 191 #[.int .i64 a, .int .i64 b] w fun e w' =>
    e = .returned (.tuple #[.int .i64 (resI (mdc a b) (a * b / 4294967296)), .bool (resB (mdc a b) (a * b / 4294967296))]) ∧ Below w.heap.size w w' := by
  have F := Lib.hid (fun w => fixOf_down (prV a b) (prD a b) (prV_in a b).1 (prV_in a b).2 w)
  have E := Lib.hid (pr_res a b)
  have Q := Lib.hid (fun w => productOf_any a b ha hb w)
  clear ha hb
  go_enter Try.func191, Try.ntmps191
  go_wp2_with fail
  refine (Q.out _).mono ?_
  rintro e w1 ⟨rfl, hb1⟩
  have hs1 : _ ≤ w1.heap.size := hb1.size
  try simp at hs1
  go_wp2_with fail
  refine (F.out _).mono ?_
  rintro e w2 ⟨rfl, hb2⟩
  have hs2 : _ ≤ w2.heap.size := hb2.size
  try simp at hs2
  go_wp2
  go_ret2
  exact ⟨(by first | (rw [E.out.1, E.out.2]; done) | (rw [E.out.1, E.out.2]; rfl) | (simp [E.out.1, E.out.2]; done)), belB⟩
theorem MulUp_any (a b : Int) (ha : In64 a) (hb : In64 b) (w : World) : Calls Try.prog 192 #[.int .i64 a, .int .i64 b] w fun e w' =>
    e = .returned (.tuple #[.int .i64 (resI (mdc a b) (cei (a * b) 4294967296)), .bool (resB (mdc a b) (cei (a * b) 4294967296))]) ∧ Below w.heap.size w w' := by
  have F := Lib.hid (fun w => fixOf_up (prV a b) (prD a b) (prV_in a b).1 (prV_in a b).2 w)
  have E := Lib.hid (pr_resU a b)
  have Q := Lib.hid (fun w => productOf_any a b ha hb w)
  clear ha hb
  go_enter Try.func192, Try.ntmps192
  go_wp2_with fail
  refine (Q.out _).mono ?_
  rintro e w1 ⟨rfl, hb1⟩
  have hs1 : _ ≤ w1.heap.size := hb1.size
  try simp at hs1
  go_wp2_with fail
  refine (F.out _).mono ?_
  rintro e w2 ⟨rfl, hb2⟩
  have hs2 : _ ≤ w2.heap.size := hb2.size
  try simp at hs2
  go_wp2
  go_ret2
  exact ⟨(by first | (rw [E.out.1, E.out.2]; done) | (rw [E.out.1, E.out.2]; rfl) | (simp [E.out.1, E.out.2]; done)), belB⟩
theorem DivDown_any (a b : Int) (ha : In64 a) (hb : In64 b) (w : World) : Calls Try.prog 214 #[.int .i64 a, .int .i64 b] w fun e w' =>
    e = .returned (.tuple #[.int .i64 (resI (dvc a b) (dvD a b)), .bool (resB (dvc a b) (dvD a b))]) ∧ Below w.heap.size w w' := by
  have F := Lib.hid (fun w => fixOf_down (qtV a b) (qtD a b) (qtV_in a b).1 (qtV_in a b).2 w)
  have E := Lib.hid (qt_res a b)
  have Q := Lib.hid (fun w => quotientOf_any a b ha hb w)
  clear ha hb
  go_enter Try.func214, Try.ntmps214
  go_wp2_with fail
  refine (Q.out _).mono ?_
  rintro e w1 ⟨rfl, hb1⟩
  have hs1 : _ ≤ w1.heap.size := hb1.size
  try simp at hs1
  go_wp2_with fail
  refine (F.out _).mono ?_
  rintro e w2 ⟨rfl, hb2⟩
  have hs2 : _ ≤ w2.heap.size := hb2.size
  try simp at hs2
  go_wp2
  go_ret2
  exact ⟨(by first | (rw [E.out.1, E.out.2]; done) | (rw [E.out.1, E.out.2]; rfl) | (simp [E.out.1, E.out.2]; done)), belB⟩
theorem DivUp_any (a b : Int) (ha : In64 a) (hb : In64 b) (w : World) : Calls Try.prog 215 #[.int .i64 a, .int .i64 b] w fun e w' =>
    e = .returned (.tuple #[.int .i64 (resI (dvc a b) (dvU a b)), .bool (resB (dvc a b) (dvU a b))]) ∧ Below w.heap.size w w' := by
  have F := Lib.hid (fun w => fixOf_up (qtV a b) (qtD a b) (qtV_in a b).1 (qtV_in a b).2 w)
  have E := Lib.hid (qt_resU a b)
  have Q := Lib.hid (fun w => quotientOf_any a b ha hb w)
  clear ha hb
  go_enter Try.func215, Try.ntmps215
  go_wp2_with fail
  refine (Q.out _).mono ?_
  rintro e w1 ⟨rfl, hb1⟩
  have hs1 : _ ≤ w1.heap.size := hb1.size
  try simp at hs1
  go_wp2_with fail
  refine (F.out _).mono ?_
  rintro e w2 ⟨rfl, hb2⟩
  have hs2 : _ ≤ w2.heap.size := hb2.size
  try simp at hs2
  go_wp2
  go_ret2
  exact ⟨(by first | (rw [E.out.1, E.out.2]; done) | (rw [E.out.1, E.out.2]; rfl) | (simp [E.out.1, E.out.2]; done)), belB⟩
end Go.Proofs.Ytmikjgbojknlnaa
namespace Go.Proofs.Ytmikjgbojknlnaa
open Go.ChangeShapes Go.WideShapes Go.ChangeAt Go.RowKit
set_option linter.unusedVariables false
set_option maxRecDepth 100000
set_option linter.unusedSimpArgs false
set_option maxHeartbeats 1000000

theorem rt_res {a : Int} (a1 : a ≤ 1152921504606846976) : resI (decide (0 ≤ a)) (rtD a) = resI (okR a) (rtD a) ∧ resB (decide (0 ≤ a)) (rtD a) = resB (okR a) (rtD a) ∧
    resI (decide (0 ≤ a)) (rtU a) = resI (okR a) (rtU a) ∧ resB (decide (0 ≤ a)) (rtU a) = resB (okR a) (rtU a) := by
  have e : decide (0 ≤ a) = okR a := by unfold okR; rw [Bool.eq_iff_iff]; simp; omega
  rw [e]; exact ⟨rfl, rfl, rfl, rfl⟩
theorem rt_none {a : Int} (x : Int) (h : ¬ InF a) : okR a = false := decide_eq_false (fun k => h ⟨by omega, k.2⟩)
theorem fixIn {a : Int} (h : InF a) : InW (a * 4294967296) ∧ a * 4294967296 < 21267647932558653966460912964485513216 := by unfold InF at h; unfold InW; omega
theorem rootOf_yes (a : Int) (h : InF a) (w : World) : Calls Try.prog 150 #[.int .i64 a] w fun e w' =>
    e = .returned (.agg #[.int .i64 (hiW (a * 4294967296)), .int .u64 (loW (a * 4294967296))]) ∧ Below w.heap.size w w' := by
  have O := okF_yes h
  have M := Lib.hid (fun w => WideMul_any a 4294967296 (inF_64 h) (by unfold In64; omega) w)
  clear h
  go_enter Try.func150, Try.ntmps150
  go_wp2_with fail
  refine (ValidFix_any a _).mono ?_
  rintro e w0 ⟨rfl, rfl⟩
  go_wp2_with fail
  refine (M.out _).mono ?_
  rintro e w1 ⟨rfl, hb1⟩
  have hs1 : _ ≤ w1.heap.size := hb1.size
  try simp at hs1
  have o_j0 : Own (w1) (w.heap.size) 0 (.int .i64 0) := ownJ; obtain ⟨j0, f_j0⟩ := o_j0; have o_j1 : Own (w1) (w.heap.size) 1 (.int .u64 0) := ownJ; obtain ⟨j1, f_j1⟩ := o_j1
  go_wp2
  exact bodyPost_ret (v := .agg #[.int .i64 (hiW (a * 4294967296)), .int .u64 (loW (a * 4294967296))]) (by simp [results, Try.results150, go_sem, j0, j1]) rfl ⟨rfl, belB⟩
theorem rootOf_no (a : Int) (h : ¬ InF a) (w : World) : Calls Try.prog 150 #[.int .i64 a] w fun e w' =>
    e = .returned (.agg #[.int .i64 (hiW (-1)), .int .u64 (loW (-1))]) ∧ Below w.heap.size w w' := by
  have O := okF_no h
  have M := Lib.hid (fun w => WideOf_any (-1) (by unfold In64; omega) w)
  clear h
  go_enter Try.func150, Try.ntmps150
  go_wp2_with fail
  refine (ValidFix_any a _).mono ?_
  rintro e w0 ⟨rfl, rfl⟩
  go_wp2_with fail
  refine (M.out _).mono ?_
  rintro e w1 ⟨rfl, hb1⟩
  have hs1 : _ ≤ w1.heap.size := hb1.size
  try simp at hs1
  have o_j0 : Own (w1) (w.heap.size) 0 (.int .i64 0) := ownJ; obtain ⟨j0, f_j0⟩ := o_j0; have o_j1 : Own (w1) (w.heap.size) 1 (.int .u64 0) := ownJ; obtain ⟨j1, f_j1⟩ := o_j1
  go_wp2
  exact bodyPost_ret (v := .agg #[.int .i64 (hiW (-1)), .int .u64 (loW (-1))]) (by simp [results, Try.results150, go_sem, j0, j1]) rfl ⟨rfl, belB⟩
theorem SqrtDown_any (a : Int) (ha : In64 a) (w : World) : Calls Try.prog 84 #[.int .i64 a] w fun e w' =>
    e = .returned (.tuple #[.int .i64 (resI (okR a) (rtD a)), .bool (resB (okR a) (rtD a))]) ∧ Below w.heap.size w w' := by
  by_cases h : InF a
  · have R := Lib.hid (fun w => rootOf_yes a h w)
    have F := Lib.hid (fun w => fixOf_rdown (a * 4294967296) (fixIn h).1 (fixIn h).2 w)
    rw [(sqW_unit a).1, (sqW_unit a).2] at F
    have E1 := Lib.hid ((rt_res h.2).1)
    have E2 := Lib.hid ((rt_res h.2).2.1)
    clear h ha
    go_enter Try.func84, Try.ntmps84
    go_wp2_with fail
    refine (R.out _).mono ?_
    rintro e w1 ⟨rfl, hb1⟩
    have hs1 : _ ≤ w1.heap.size := hb1.size
    try simp at hs1
    go_wp2_with fail
    refine (F.out _).mono ?_
    rintro e w2 ⟨rfl, hb2⟩
    have hs2 : _ ≤ w2.heap.size := hb2.size
    try simp at hs2
    go_wp2
    go_ret2
    exact ⟨(by first | (rw [E1.out, E2.out]; done) | (rw [E1.out, E2.out]; rfl) | (simp [E1.out, E2.out]; done)), belB⟩
  · have R := Lib.hid (fun w => rootOf_no a h w)
    have F := Lib.hid (fun w => fixOf_rdown (-1) (by unfold InW; omega) (by omega) w)
    have E := Lib.hid (res_none (v := rtD a) (rt_none 0 h))
    have E' := Lib.hid (res_none (v := sqW (-1)) (show sqOk (-1) = false from rfl))
    clear h ha
    go_enter Try.func84, Try.ntmps84
    go_wp2_with fail
    refine (R.out _).mono ?_
    rintro e w1 ⟨rfl, hb1⟩
    have hs1 : _ ≤ w1.heap.size := hb1.size
    try simp at hs1
    go_wp2_with fail
    refine (F.out _).mono ?_
    rintro e w2 ⟨rfl, hb2⟩
    have hs2 : _ ≤ w2.heap.size := hb2.size
    try simp at hs2
    rw [E'.out.1, E'.out.2]
    go_wp2
    go_ret2
    exact ⟨(by first | (rw [E.out.1, E.out.2]; done) | (rw [E.out.1, E.out.2]; rfl) | (simp [E.out.1, E.out.2]; done)), belB⟩
theorem SqrtUp_any (a : Int) (ha : In64 a) (w : World) : Calls Try.prog 86 #[.int .i64 a] w fun e w' =>
    e = .returned (.tuple #[.int .i64 (resI (okR a) (rtU a)), .bool (resB (okR a) (rtU a))]) ∧ Below w.heap.size w w' := by
  by_cases h : InF a
  · have R := Lib.hid (fun w => rootOf_yes a h w)
    have F := Lib.hid (fun w => fixOf_rup (a * 4294967296) (fixIn h).1 (fixIn h).2 w)
    rw [sqU_unit a, (sqW_unit a).2] at F
    have E1 := Lib.hid ((rt_res h.2).2.2.1)
    have E2 := Lib.hid ((rt_res h.2).2.2.2)
    clear h ha
    go_enter Try.func86, Try.ntmps86
    go_wp2_with fail
    refine (R.out _).mono ?_
    rintro e w1 ⟨rfl, hb1⟩
    have hs1 : _ ≤ w1.heap.size := hb1.size
    try simp at hs1
    go_wp2_with fail
    refine (F.out _).mono ?_
    rintro e w2 ⟨rfl, hb2⟩
    have hs2 : _ ≤ w2.heap.size := hb2.size
    try simp at hs2
    go_wp2
    go_ret2
    exact ⟨(by first | (rw [E1.out, E2.out]; done) | (rw [E1.out, E2.out]; rfl) | (simp [E1.out, E2.out]; done)), belB⟩
  · have R := Lib.hid (fun w => rootOf_no a h w)
    have F := Lib.hid (fun w => fixOf_rup (-1) (by unfold InW; omega) (by omega) w)
    have E := Lib.hid (res_none (v := rtU a) (rt_none 0 h))
    have E' := Lib.hid (res_none (v := sqU (-1)) (show sqOk (-1) = false from rfl))
    clear h ha
    go_enter Try.func86, Try.ntmps86
    go_wp2_with fail
    refine (R.out _).mono ?_
    rintro e w1 ⟨rfl, hb1⟩
    have hs1 : _ ≤ w1.heap.size := hb1.size
    try simp at hs1
    go_wp2_with fail
    refine (F.out _).mono ?_
    rintro e w2 ⟨rfl, hb2⟩
    have hs2 : _ ≤ w2.heap.size := hb2.size
    try simp at hs2
    rw [E'.out.1, E'.out.2]
    go_wp2
    go_ret2
    exact ⟨(by first | (rw [E.out.1, E.out.2]; done) | (rw [E.out.1, E.out.2]; rfl) | (simp [E.out.1, E.out.2]; done)), belB⟩
end Go.Proofs.Ytmikjgbojknlnaa
