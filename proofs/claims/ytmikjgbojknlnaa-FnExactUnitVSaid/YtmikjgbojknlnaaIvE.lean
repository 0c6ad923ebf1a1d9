/- Contracts of roundings, quotients and integers as intervals in the program. Conditions: numbers are int64. -/
import Derived.Test.YtmikjgbojknlnaaIvD
import Derived.Test.YtmikjgbojknlnaaFixZc
import Derived.Outline
namespace Go.Proofs.Ytmikjgbojknlnaa
open Go.ChangeShapes Go.WideShapes Go.ChangeAt Go.RowKit
set_option linter.unusedVariables false
set_option maxRecDepth 100000
set_option linter.unusedSimpArgs false
set_option maxHeartbeats 1000000

theorem rounded_F (a b : Int) (ha : In64 a) (hb : In64 b) (w : World) : Calls Try.prog 190 #[.int .i64 a, .int .i64 b, .func (Fn.func 195) #[] #[], .func (Fn.func 196) #[] #[]] w fun e w' =>
    e = .returned (.agg #[.int .i64 (flq a b).1, .int .i64 (flq a b).2]) ∧ Below w.heap.size w w' := by
  have D := Lib.hid (fun w => FixFloor_any a b ha hb w)
  have U := Lib.hid (fun w => FixCeil_any a b ha hb w)
  have E := Lib.hid (show flq a b = kn (resB (okD b) (quoW (a * 4294967296) b) && resB (okD b) (upW (a * 4294967296) b)) (resI (okD b) (quoW (a * 4294967296) b), resI (okD b) (upW (a * 4294967296) b)) from rfl)
  clear ha hb
  generalize resB (okD b) (quoW (a * 4294967296) b) = c1 at *
  generalize resB (okD b) (upW (a * 4294967296) b) = c2 at *
  generalize resI (okD b) (quoW (a * 4294967296) b) = l at *
  generalize resI (okD b) (upW (a * 4294967296) b) = h at *
  cases c1
  · have G := Lib.hid (show (false && c2) = false from rfl)
    go_enter Try.func190, Try.ntmps190
    go_wp2_with fail
    refine (D.out _).mono ?_
    rintro e w1 ⟨rfl, hb1⟩
    have hs1 : _ ≤ w1.heap.size := hb1.size
    try simp at hs1
    go_wp2_with fail
    refine (U.out _).mono ?_
    rintro e w2 ⟨rfl, hb2⟩
    have hs2 : _ ≤ w2.heap.size := hb2.size
    try simp at hs2
    go_wp2_with fail
    refine (interval_any l h false _).mono ?_
    rintro e w3 ⟨rfl, hb3⟩
    have hs3 : _ ≤ w3.heap.size := hb3.size
    try simp at hs3
    have o_qr30 : Own (w3) (w.heap.size) 0 (.int .i64 0) := ownJ; obtain ⟨qr30, f_qr30⟩ := o_qr30; have o_qr31 : Own (w3) (w.heap.size) 1 (.int .i64 0) := ownJ; obtain ⟨qr31, f_qr31⟩ := o_qr31
    go_wp2
    exact bodyPost_ret (v := .agg #[.int .i64 (kn false (l, h)).1, .int .i64 (kn false (l, h)).2]) (by simp [results, Try.results190, go_sem, qr30, qr31]) rfl ⟨by rw [E.out, G.out], belB⟩
  · have G := Lib.hid (show (true && c2) = c2 from rfl)
    go_enter Try.func190, Try.ntmps190
    go_wp2_with fail
    refine (D.out _).mono ?_
    rintro e w1 ⟨rfl, hb1⟩
    have hs1 : _ ≤ w1.heap.size := hb1.size
    try simp at hs1
    go_wp2_with fail
    refine (U.out _).mono ?_
    rintro e w2 ⟨rfl, hb2⟩
    have hs2 : _ ≤ w2.heap.size := hb2.size
    try simp at hs2
    go_wp2_with fail
    refine (interval_any l h c2 _).mono ?_
    rintro e w3 ⟨rfl, hb3⟩
    have hs3 : _ ≤ w3.heap.size := hb3.size
    try simp at hs3
    have o_qr30 : Own (w3) (w.heap.size) 0 (.int .i64 0) := ownJ; obtain ⟨qr30, f_qr30⟩ := o_qr30; have o_qr31 : Own (w3) (w.heap.size) 1 (.int .i64 0) := ownJ; obtain ⟨qr31, f_qr31⟩ := o_qr31
    go_wp2
    exact bodyPost_ret (v := .agg #[.int .i64 (kn c2 (l, h)).1, .int .i64 (kn c2 (l, h)).2]) (by simp [results, Try.results190, go_sem, qr30, qr31]) rfl ⟨by rw [E.out, G.out], belB⟩
theorem rounded_M (a b : Int) (ha : In64 a) (hb : In64 b) (w : World) : Calls Try.prog 190 #[.int .i64 a, .int .i64 b, .func (Fn.func 191) #[] #[], .func (Fn.func 192) #[] #[]] w fun e w' =>
    e = .returned (.agg #[.int .i64 (rdM a b).1, .int .i64 (rdM a b).2]) ∧ Below w.heap.size w w' := by
  have D := Lib.hid (fun w => MulDown_any a b ha hb w)
  have U := Lib.hid (fun w => MulUp_any a b ha hb w)
  have E := Lib.hid (show rdM a b = kn (resB (mdc a b) (a * b / 4294967296) && resB (mdc a b) (cei (a * b) 4294967296)) (resI (mdc a b) (a * b / 4294967296), resI (mdc a b) (cei (a * b) 4294967296)) from rfl)
  clear ha hb
  generalize resB (mdc a b) (a * b / 4294967296) = c1 at *
  generalize resB (mdc a b) (cei (a * b) 4294967296) = c2 at *
  generalize resI (mdc a b) (a * b / 4294967296) = l at *
  generalize resI (mdc a b) (cei (a * b) 4294967296) = h at *
  cases c1
  · have G := Lib.hid (show (false && c2) = false from rfl)
    go_enter Try.func190, Try.ntmps190
    go_wp2_with fail
    refine (D.out _).mono ?_
    rintro e w1 ⟨rfl, hb1⟩
    have hs1 : _ ≤ w1.heap.size := hb1.size
    try simp at hs1
    go_wp2_with fail
    refine (U.out _).mono ?_
    rintro e w2 ⟨rfl, hb2⟩
    have hs2 : _ ≤ w2.heap.size := hb2.size
    try simp at hs2
    go_wp2_with fail
    refine (interval_any l h false _).mono ?_
    rintro e w3 ⟨rfl, hb3⟩
    have hs3 : _ ≤ w3.heap.size := hb3.size
    try simp at hs3
    have o_qr30 : Own (w3) (w.heap.size) 0 (.int .i64 0) := ownJ; obtain ⟨qr30, f_qr30⟩ := o_qr30; have o_qr31 : Own (w3) (w.heap.size) 1 (.int .i64 0) := ownJ; obtain ⟨qr31, f_qr31⟩ := o_qr31
    go_wp2
    exact bodyPost_ret (v := .agg #[.int .i64 (kn false (l, h)).1, .int .i64 (kn false (l, h)).2]) (by simp [results, Try.results190, go_sem, qr30, qr31]) rfl ⟨by rw [E.out, G.out], belB⟩
  · have G := Lib.hid (show (true && c2) = c2 from rfl)
    go_enter Try.func190, Try.ntmps190
    go_wp2_with fail
    refine (D.out _).mono ?_
    rintro e w1 ⟨rfl, hb1⟩
    have hs1 : _ ≤ w1.heap.size := hb1.size
    try simp at hs1
    go_wp2_with fail
    refine (U.out _).mono ?_
    rintro e w2 ⟨rfl, hb2⟩
    have hs2 : _ ≤ w2.heap.size := hb2.size
    try simp at hs2
    go_wp2_with fail
    refine (interval_any l h c2 _).mono ?_
    rintro e w3 ⟨rfl, hb3⟩
    have hs3 : _ ≤ w3.heap.size := hb3.size
    try simp at hs3
    have o_qr30 : Own (w3) (w.heap.size) 0 (.int .i64 0) := ownJ; obtain ⟨qr30, f_qr30⟩ := o_qr30; have o_qr31 : Own (w3) (w.heap.size) 1 (.int .i64 0) := ownJ; obtain ⟨qr31, f_qr31⟩ := o_qr31
    go_wp2
    exact bodyPost_ret (v := .agg #[.int .i64 (kn c2 (l, h)).1, .int .i64 (kn c2 (l, h)).2]) (by simp [results, Try.results190, go_sem, qr30, qr31]) rfl ⟨by rw [E.out, G.out], belB⟩
theorem rounded_D (a b : Int) (ha : In64 a) (hb : In64 b) (w : World) : Calls Try.prog 190 #[.int .i64 a, .int .i64 b, .func (Fn.func 214) #[] #[], .func (Fn.func 215) #[] #[]] w fun e w' =>
    e = .returned (.agg #[.int .i64 (rdD a b).1, .int .i64 (rdD a b).2]) ∧ Below w.heap.size w w' := by
  have D := Lib.hid (fun w => DivDown_any a b ha hb w)
  have U := Lib.hid (fun w => DivUp_any a b ha hb w)
  have E := Lib.hid (show rdD a b = kn (resB (dvc a b) (dvD a b) && resB (dvc a b) (dvU a b)) (resI (dvc a b) (dvD a b), resI (dvc a b) (dvU a b)) from rfl)
  clear ha hb
  generalize resB (dvc a b) (dvD a b) = c1 at *
  generalize resB (dvc a b) (dvU a b) = c2 at *
  generalize resI (dvc a b) (dvD a b) = l at *
  generalize resI (dvc a b) (dvU a b) = h at *
  cases c1
  · have G := Lib.hid (show (false && c2) = false from rfl)
    go_enter Try.func190, Try.ntmps190
    go_wp2_with fail
    refine (D.out _).mono ?_
    rintro e w1 ⟨rfl, hb1⟩
    have hs1 : _ ≤ w1.heap.size := hb1.size
    try simp at hs1
    go_wp2_with fail
    refine (U.out _).mono ?_
    rintro e w2 ⟨rfl, hb2⟩
    have hs2 : _ ≤ w2.heap.size := hb2.size
    try simp at hs2
    go_wp2_with fail
    refine (interval_any l h false _).mono ?_
    rintro e w3 ⟨rfl, hb3⟩
    have hs3 : _ ≤ w3.heap.size := hb3.size
    try simp at hs3
    have o_qr30 : Own (w3) (w.heap.size) 0 (.int .i64 0) := ownJ; obtain ⟨qr30, f_qr30⟩ := o_qr30; have o_qr31 : Own (w3) (w.heap.size) 1 (.int .i64 0) := ownJ; obtain ⟨qr31, f_qr31⟩ := o_qr31
    go_wp2
    exact bodyPost_ret (v := .agg #[.int .i64 (kn false (l, h)).1, .int .i64 (kn false (l, h)).2]) (by simp [results, Try.results190, go_sem, qr30, qr31]) rfl ⟨by rw [E.out, G.out], belB⟩
  · have G := Lib.hid (show (true && c2) = c2 from rfl)
    go_enter Try.func190, Try.ntmps190
    go_wp2_with fail
    refine (D.out _).mono ?_
    rintro e w1 ⟨rfl, hb1⟩
    have hs1 : _ ≤ w1.heap.size := hb1.size
    try simp at hs1
    go_wp2_with fail
    refine (U.out _).mono ?_
    rintro e w2 ⟨rfl, hb2⟩
    have hs2 : _ ≤ w2.heap.size := hb2.size
    try simp at hs2
    go_wp2_with fail
    refine (interval_any l h c2 _).mono ?_
    rintro e w3 ⟨rfl, hb3⟩
    have hs3 : _ ≤ w3.heap.size := hb3.size
    try simp at hs3
    have o_qr30 : Own (w3) (w.heap.size) 0 (.int .i64 0) := ownJ; obtain ⟨qr30, f_qr30⟩ := o_qr30; have o_qr31 : Own (w3) (w.heap.size) 1 (.int .i64 0) := ownJ; obtain ⟨qr31, f_qr31⟩ := o_qr31
    go_wp2
    exact bodyPost_ret (v := .agg #[.int .i64 (kn c2 (l, h)).1, .int .i64 (kn c2 (l, h)).2]) (by simp [results, Try.results190, go_sem, qr30, qr31]) rfl ⟨by rw [E.out, G.out], belB⟩
theorem Quotient_any (a b : Int) (ha : In64 a) (hb : In64 b) (w : World) : Calls Try.prog 160 #[.int .i64 a, .int .i64 b] w fun e w' =>
    e = .returned (.agg #[.int .i64 (quoI a b).1, .int .i64 (quoI a b).2]) ∧ Below w.heap.size w w' := by
  by_cases s : b < 0
  · by_cases m : a = -9223372036854775808
    · have E := Lib.hid (show quoI a b = whl by unfold quoI; rw [if_pos s, if_pos (.inl m)])
      subst m
      go_enter Try.func160, Try.ntmps160
      go_wp2_with fail
      refine (Whole_any _).mono ?_
      rintro e w1 ⟨rfl, hb1⟩
      have hs1 : _ ≤ w1.heap.size := hb1.size
      try simp at hs1
      have o_qr10 : Own (w1) (w.heap.size) 0 (.int .i64 0) := ownJ; obtain ⟨qr10, f_qr10⟩ := o_qr10; have o_qr11 : Own (w1) (w.heap.size) 1 (.int .i64 0) := ownJ; obtain ⟨qr11, f_qr11⟩ := o_qr11
      go_wp2
      exact bodyPost_ret (v := .agg #[.int .i64 (-1152921504606846976), .int .i64 1152921504606846976]) (by simp [results, Try.results160, go_sem, qr10, qr11]) rfl ⟨(by first | (rw [E.out]; done) | (rw [E.out]; rfl) | (simp [E.out]; done)), belB⟩
    · by_cases n : b = -9223372036854775808
      · have E := Lib.hid (show quoI a b = whl by unfold quoI; rw [if_pos s, if_pos (.inr n)])
        have m0 : (a == -9223372036854775808) = false := by simpa using m
        clear m
        subst n
        go_enter Try.func160, Try.ntmps160
        go_wp2_with fail
        refine (Whole_any _).mono ?_
        rintro e w1 ⟨rfl, hb1⟩
        have hs1 : _ ≤ w1.heap.size := hb1.size
        try simp at hs1
        have o_qr10 : Own (w1) (w.heap.size) 0 (.int .i64 0) := ownJ; obtain ⟨qr10, f_qr10⟩ := o_qr10; have o_qr11 : Own (w1) (w.heap.size) 1 (.int .i64 0) := ownJ; obtain ⟨qr11, f_qr11⟩ := o_qr11
        go_wp2
        exact bodyPost_ret (v := .agg #[.int .i64 (-1152921504606846976), .int .i64 1152921504606846976]) (by simp [results, Try.results160, go_sem, qr10, qr11]) rfl ⟨(by first | (rw [E.out]; done) | (rw [E.out]; rfl) | (simp [E.out]; done)), belB⟩
      · have E := Lib.hid (show quoI a b = flq (-a) (-b) by unfold quoI; rw [if_pos s, if_neg (by omega)])
        have m0 : (a == -9223372036854775808) = false := by simpa using m
        have n0 : (b == -9223372036854775808) = false := by simpa using n
        have R := Lib.hid (fun w => rounded_F (-a) (-b) (by unfold In64 at *; omega) (by unfold In64 at *; omega) w)
        have W1 := Lib.hid (show IntKind.i64.wrap (-a) = -a from wrapS (by unfold In64 at *; omega))
        have W2 := Lib.hid (show IntKind.i64.wrap (-b) = -b from wrapS (by unfold In64 at *; omega))
        obtain ⟨a0, a1⟩ := ha
        obtain ⟨b0, b1⟩ := hb
        have a2 : -9223372036854775807 ≤ a := by omega
        have b2 : -9223372036854775807 ≤ b := by omega
        clear m n
        go_enter Try.func160, Try.ntmps160
        go_wp2_with fail
        refine (R.out _).mono ?_
        rintro e w1 ⟨rfl, hb1⟩
        have hs1 : _ ≤ w1.heap.size := hb1.size
        try simp at hs1
        have o_qr10 : Own (w1) (w.heap.size) 0 (.int .i64 0) := ownJ; obtain ⟨qr10, f_qr10⟩ := o_qr10; have o_qr11 : Own (w1) (w.heap.size) 1 (.int .i64 0) := ownJ; obtain ⟨qr11, f_qr11⟩ := o_qr11
        go_wp2
        exact bodyPost_ret (v := .agg #[.int .i64 (flq (-a) (-b)).1, .int .i64 (flq (-a) (-b)).2]) (by simp [results, Try.results160, go_sem, qr10, qr11]) rfl ⟨(by first | (rw [E.out]; done) | (rw [E.out]; rfl) | (simp [E.out]; done)), belB⟩
  · have E := Lib.hid (show quoI a b = flq a b from if_neg s)
    have R := Lib.hid (fun w => rounded_F a b ha hb w)
    go_enter Try.func160, Try.ntmps160
    go_wp2_with fail
    refine (R.out _).mono ?_
    rintro e w1 ⟨rfl, hb1⟩
    have hs1 : _ ≤ w1.heap.size := hb1.size
    try simp at hs1
    have o_qr10 : Own (w1) (w.heap.size) 0 (.int .i64 0) := ownJ; obtain ⟨qr10, f_qr10⟩ := o_qr10; have o_qr11 : Own (w1) (w.heap.size) 1 (.int .i64 0) := ownJ; obtain ⟨qr11, f_qr11⟩ := o_qr11
    go_wp2
    exact bodyPost_ret (v := .agg #[.int .i64 (flq a b).1, .int .i64 (flq a b).2]) (by simp [results, Try.results160, go_sem, qr10, qr11]) rfl ⟨(by first | (rw [E.out]; done) | (rw [E.out]; rfl) | (simp [E.out]; done)), belB⟩
theorem Integer_any (a : Int) (ha : In64 a) (w : World) : Calls Try.prog 101 #[.int .i64 a] w fun e w' =>
    e = .returned (.agg #[.int .i64 (intI a).1, .int .i64 (intI a).2]) ∧ Below w.heap.size w w' := by
  have R := Lib.hid (fun w => Quotient_any a 1 ha (by unfold In64; omega) w)
  go_enter Try.func101, Try.ntmps101
  go_wp2_with fail
  refine (R.out _).mono ?_
  rintro e w1 ⟨rfl, hb1⟩
  have hs1 : _ ≤ w1.heap.size := hb1.size
  try simp at hs1
  have o_qr10 : Own (w1) (w.heap.size) 0 (.int .i64 0) := ownJ; obtain ⟨qr10, f_qr10⟩ := o_qr10; have o_qr11 : Own (w1) (w.heap.size) 1 (.int .i64 0) := ownJ; obtain ⟨qr11, f_qr11⟩ := o_qr11
  go_wp2
  exact bodyPost_ret (v := .agg #[.int .i64 (quoI a 1).1, .int .i64 (quoI a 1).2]) (by simp [results, Try.results101, go_sem, qr10, qr11]) rfl ⟨rfl, belB⟩
end Go.Proofs.Ytmikjgbojknlnaa
