/- Contracts of quotients and products of fixes in the model. Conditions: numbers are int64. -/
import Derived.Test.YtmikjgbojknlnaaNumZ
import Derived.Test.YtmikjgbojknlnaaFixA
namespace Go.Proofs.Ytmikjgbojknlnaa
open Go.ChangeShapes Go.WideShapes Go.ChangeAt Go.RowKit
set_option linter.unusedVariables false
set_option maxRecDepth 100000
set_option linter.unusedSimpArgs false
set_option maxHeartbeats 1000000

theorem md_unit (a d : Int) : mdI a 4294967296 d = (if 1 ≤ d then intW (a * 4294967296 / d) else 0) ∧ mdB a 4294967296 d = (if 1 ≤ d then okW (a * 4294967296 / d) else false) := ⟨rfl, rfl⟩
theorem mdc_yes {a b : Int} (h : InF a) (k : InF b) : mdc a b = true := decide_eq_true ⟨h, k⟩
theorem mdc_no {a b : Int} (h : ¬ (InF a ∧ InF b)) : mdc a b = false := decide_eq_false h
theorem mf_unit (a b : Int) : mfI a b 32 = intW (a * b / 4294967296) ∧ mfB a b 32 = okW (a * b / 4294967296) := by
  unfold mfI mfB
  rw [if_pos (by omega), if_pos (by omega), shr_unit]; exact ⟨rfl, rfl⟩
theorem l03MulDown_any (a b : Int) (ha : In64 a) (hb : In64 b) (w : World) : Calls Try.prog 156 #[.int .i64 a, .int .i64 b] w fun e w' =>
    e = .returned (.tuple #[.int .i64 (resI (mdc a b) (a * b / 4294967296)), .bool (resB (mdc a b) (a * b / 4294967296))]) ∧ Below w.heap.size w w' := by
  by_cases fa : InF a
  · have O1 := okF_yes fa
    by_cases fb : InF b
    · have O2 := okF_yes fb
      have D := Lib.hid (mdc_yes fa fb)
      have M := Lib.hid (fun w => sMulFloor_any a b 32 ha hb (by unfold In64; omega) w)
      have M1 := Lib.hid (mf_unit a b)
      have R := Lib.hid (res_word (a * b / 4294967296))
      clear fa fb ha hb
      go_enter Try.func156, Try.ntmps156
      go_wp2_with fail
      refine (l03Ok_any a _).mono ?_
      rintro e w0 ⟨rfl, rfl⟩
      go_wp2_with fail
      refine (l03Ok_any b _).mono ?_
      rintro e w0 ⟨rfl, rfl⟩
      go_wp2_with fail
      refine (M.out _).mono ?_
      rintro e w1 ⟨rfl, hb1⟩
      have hs1 : _ ≤ w1.heap.size := hb1.size
      try simp at hs1
      rw [M1.out.1, M1.out.2]
      go_wp2_with fail
      refine (l03End_any _ _ _).mono ?_
      rintro e w2 ⟨rfl, rfl⟩
      rw [R.out.1, R.out.2]
      go_wp2
      go_ret2
      exact ⟨(by first | (rw [D.out]; done) | (rw [D.out]; rfl) | (simp [D.out]; done)), belB⟩
    · have O2 := okF_no fb
      have E := Lib.hid (res_none (v := a * b / 4294967296) (mdc_no (a := a) (b := b) (fun h => fb h.2)))
      clear fa fb ha hb
      go_enter Try.func156, Try.ntmps156
      go_wp2_with fail
      refine (l03Ok_any a _).mono ?_
      rintro e w0 ⟨rfl, rfl⟩
      go_wp2_with fail
      refine (l03Ok_any b _).mono ?_
      rintro e w0 ⟨rfl, rfl⟩
      go_wp2
      go_ret2
      exact ⟨(by first | (rw [E.out.1, E.out.2]; done) | (rw [E.out.1, E.out.2]; rfl) | (simp [E.out.1, E.out.2]; done)), belB⟩
  · have O1 := okF_no fa
    have E := Lib.hid (res_none (v := a * b / 4294967296) (mdc_no (a := a) (b := b) (fun h => fa h.1)))
    clear fa ha hb
    go_enter Try.func156, Try.ntmps156
    go_wp2_with fail
    refine (l03Ok_any a _).mono ?_
    rintro e w0 ⟨rfl, rfl⟩
    go_wp2
    go_ret2
    exact ⟨(by first | (rw [E.out.1, E.out.2]; done) | (rw [E.out.1, E.out.2]; rfl) | (simp [E.out.1, E.out.2]; done)), belB⟩
theorem l03MulUp_any (a b : Int) (ha : In64 a) (hb : In64 b) (w : World) : Calls Try.prog 157 #[.int .i64 a, .int .i64 b] w fun e w' =>
    e = .returned (.tuple #[.int .i64 (resI (mdc a b) (cei (a * b) 4294967296)), .bool (resB (mdc a b) (cei (a * b) 4294967296))]) ∧ Below w.heap.size w w' := by
  by_cases fa : InF a
  · have O1 := okF_yes fa
    have D := Lib.hid (fun w => l03MulDown_any (-a) b (by unfold InF at fa; unfold In64; omega) hb w)
    have NC := Lib.hid (mdc_neg a b)
    have RI := Lib.hid (res_in (mdc a b) (-a * b / 4294967296))
    have RN := res_neg (mdc a b) (-a * b / 4294967296)
    rw [mul_up_down] at RN
    have R := Lib.hid RN
    clear RN
    obtain ⟨a0, a1⟩ := fa
    clear ha hb
    cases hr : resB (mdc a b) (cei (a * b) 4294967296)
    · have E0 : resI (mdc a b) (cei (a * b) 4294967296) = 0 := by
        have := of_decide_eq_false hr; exact if_neg this
      have E := Lib.hid E0
      have H := Lib.hid hr
      clear hr E0
      go_enter Try.func157, Try.ntmps157
      go_wp2_with fail
      refine (D.out _).mono ?_
      rintro e w1 ⟨rfl, hb1⟩
      have hs1 : _ ≤ w1.heap.size := hb1.size
      try simp at hs1
      rw [NC.out, R.out.2, H.out]
      go_wp2_with fail
      refine (l03Ok_any a _).mono ?_
      rintro e w0 ⟨rfl, rfl⟩
      go_wp2
      go_ret2
      exact ⟨(by first | (rw [E.out]; done) | (rw [E.out]; rfl) | (simp [E.out]; done)), belB⟩
    · have H := Lib.hid hr
      clear hr
      go_enter Try.func157, Try.ntmps157
      go_wp2_with fail
      refine (D.out _).mono ?_
      rintro e w1 ⟨rfl, hb1⟩
      have hs1 : _ ≤ w1.heap.size := hb1.size
      try simp at hs1
      rw [NC.out, R.out.2, H.out]
      have r0 : -1152921504606846976 ≤ resI (mdc a b) (-a * b / 4294967296) := RI.out.1
      have r1 : resI (mdc a b) (-a * b / 4294967296) ≤ 1152921504606846976 := RI.out.2
      go_wp2_with fail
      refine (l03Ok_any a _).mono ?_
      rintro e w0 ⟨rfl, rfl⟩
      go_wp2
      go_ret2
      exact ⟨(by first | (rw [R.out.1]; done) | (rw [R.out.1]; rfl) | (simp [R.out.1]; done)), belB⟩
  · have O1 := okF_no fa
    have E := Lib.hid (res_none (v := cei (a * b) 4294967296) (mdc_no (a := a) (b := b) (fun h => fa h.1)))
    have D := Lib.hid (fun w => l03MulDown_any (wrap64 (-a)) b (in64_wrap _) hb w)
    clear fa ha hb
    go_enter Try.func157, Try.ntmps157
    go_wp2_with fail
    refine (D.out _).mono ?_
    rintro e w1 ⟨rfl, hb1⟩
    have hs1 : _ ≤ w1.heap.size := hb1.size
    try simp at hs1
    go_wp2_with fail
    refine (l03Ok_any a _).mono ?_
    rintro e w0 ⟨rfl, rfl⟩
    go_wp2
    go_ret2
    exact ⟨(by first | (rw [E.out.1, E.out.2]; done) | (rw [E.out.1, E.out.2]; rfl) | (simp [E.out.1, E.out.2]; done)), belB⟩
theorem dvc_yes {a b : Int} (h : InF a) (k : InF b) (z : ¬ b = 0) : dvc a b = true := decide_eq_true ⟨h, k, z⟩
theorem dvc_no {a b : Int} (h : ¬ (InF a ∧ InF b ∧ ¬ b = 0)) : dvc a b = false := decide_eq_false h
theorem l03DivDown_any (a b : Int) (ha : In64 a) (hb : In64 b) (w : World) : Calls Try.prog 179 #[.int .i64 a, .int .i64 b] w fun e w' =>
    e = .returned (.tuple #[.int .i64 (resI (dvc a b) (dvD a b)), .bool (resB (dvc a b) (dvD a b))]) ∧ Below w.heap.size w w' := by
  by_cases fa : InF a
  · have O1 := okF_yes fa
    by_cases fb : InF b
    · have O2 := okF_yes fb
      by_cases z : b = 0
      · have E := Lib.hid (res_none (v := dvD a b) (dvc_no (a := a) (b := b) (fun h => h.2.2 z)))
        clear fa fb ha hb
        subst z
        go_enter Try.func179, Try.ntmps179
        go_wp2_with fail
        refine (l03Ok_any a _).mono ?_
        rintro e w0 ⟨rfl, rfl⟩
        go_wp2_with fail
        refine (l03Ok_any 0 _).mono ?_
        rintro e w0 ⟨rfl, rfl⟩
        go_wp2
        go_ret2
        exact ⟨(by first | (rw [E.out.1, E.out.2]; done) | (rw [E.out.1, E.out.2]; rfl) | (simp [E.out.1, E.out.2]; done)), belB⟩
      · have D := Lib.hid (dvc_yes fa fb z)
        have z0 : (b == 0) = false := by simpa using z
        by_cases s : b < 0
        · obtain ⟨q, hq⟩ : ∃ q, q = -a * 4294967296 / -b := ⟨_, rfl⟩
          have dv := Lib.hid (show dvD a b = q by rw [hq]; exact if_pos s)
          have M := Lib.hid (fun w => sMulDivFloor_any (-a) 4294967296 (-b) (by unfold InF at *; unfold In64; omega) (by unfold In64; omega) (by unfold InF at *; unfold In64; omega) w)
          have M1 := Lib.hid (show mdI (-a) 4294967296 (-b) = intW q by rw [hq]; exact if_pos (by omega))
          have M2 := Lib.hid (show mdB (-a) 4294967296 (-b) = okW q by rw [hq]; exact if_pos (by omega))
          have R := Lib.hid (res_word q)
          clear hq
          obtain ⟨a0, a1⟩ := fa
          obtain ⟨b0, b1⟩ := fb
          clear ha hb z
          go_enter Try.func179, Try.ntmps179
          go_wp2_with fail
          refine (l03Ok_any a _).mono ?_
          rintro e w0 ⟨rfl, rfl⟩
          go_wp2_with fail
          refine (l03Ok_any b _).mono ?_
          rintro e w0 ⟨rfl, rfl⟩
          go_wp2_with fail
          refine (M.out _).mono ?_
          rintro e w1 ⟨rfl, hb1⟩
          have hs1 : _ ≤ w1.heap.size := hb1.size
          try simp at hs1
          rw [M1.out, M2.out]
          go_wp2_with fail
          refine (l03End_any _ _ _).mono ?_
          rintro e w2 ⟨rfl, rfl⟩
          rw [R.out.1, R.out.2]
          go_wp2
          go_ret2
          exact ⟨(by first | (rw [D.out, dv.out]; done) | (rw [D.out, dv.out]; rfl) | (simp [D.out, dv.out]; done)), belB⟩
        · obtain ⟨q, hq⟩ : ∃ q, q = a * 4294967296 / b := ⟨_, rfl⟩
          have dv := Lib.hid (show dvD a b = q by rw [hq]; exact if_neg s)
          have M := Lib.hid (fun w => sMulDivFloor_any a 4294967296 b (by unfold InF at *; unfold In64; omega) (by unfold In64; omega) (by unfold InF at *; unfold In64; omega) w)
          have M1 := Lib.hid (show mdI a 4294967296 b = intW q by rw [hq]; exact if_pos (by omega))
          have M2 := Lib.hid (show mdB a 4294967296 b = okW q by rw [hq]; exact if_pos (by omega))
          have R := Lib.hid (res_word q)
          clear hq
          obtain ⟨a0, a1⟩ := fa
          obtain ⟨b0, b1⟩ := fb
          clear ha hb z
          go_enter Try.func179, Try.ntmps179
          go_wp2_with fail
          refine (l03Ok_any a _).mono ?_
          rintro e w0 ⟨rfl, rfl⟩
          go_wp2_with fail
          refine (l03Ok_any b _).mono ?_
          rintro e w0 ⟨rfl, rfl⟩
          go_wp2_with fail
          refine (M.out _).mono ?_
          rintro e w1 ⟨rfl, hb1⟩
          have hs1 : _ ≤ w1.heap.size := hb1.size
          try simp at hs1
          rw [M1.out, M2.out]
          go_wp2_with fail
          refine (l03End_any _ _ _).mono ?_
          rintro e w2 ⟨rfl, rfl⟩
          rw [R.out.1, R.out.2]
          go_wp2
          go_ret2
          exact ⟨(by first | (rw [D.out, dv.out]; done) | (rw [D.out, dv.out]; rfl) | (simp [D.out, dv.out]; done)), belB⟩
    · have O2 := okF_no fb
      have E := Lib.hid (res_none (v := dvD a b) (dvc_no (a := a) (b := b) (fun h => fb h.2.1)))
      clear fa fb ha hb
      go_enter Try.func179, Try.ntmps179
      go_wp2_with fail
      refine (l03Ok_any a _).mono ?_
      rintro e w0 ⟨rfl, rfl⟩
      go_wp2_with fail
      refine (l03Ok_any b _).mono ?_
      rintro e w0 ⟨rfl, rfl⟩
      go_wp2
      go_ret2
      exact ⟨(by first | (rw [E.out.1, E.out.2]; done) | (rw [E.out.1, E.out.2]; rfl) | (simp [E.out.1, E.out.2]; done)), belB⟩
  · have O1 := okF_no fa
    have E := Lib.hid (res_none (v := dvD a b) (dvc_no (a := a) (b := b) (fun h => fa h.1)))
    clear fa ha hb
    go_enter Try.func179, Try.ntmps179
    go_wp2_with fail
    refine (l03Ok_any a _).mono ?_
    rintro e w0 ⟨rfl, rfl⟩
    go_wp2
    go_ret2
    exact ⟨(by first | (rw [E.out.1, E.out.2]; done) | (rw [E.out.1, E.out.2]; rfl) | (simp [E.out.1, E.out.2]; done)), belB⟩
theorem l03DivUp_any (a b : Int) (ha : In64 a) (hb : In64 b) (w : World) : Calls Try.prog 180 #[.int .i64 a, .int .i64 b] w fun e w' =>
    e = .returned (.tuple #[.int .i64 (resI (dvc a b) (dvU a b)), .bool (resB (dvc a b) (dvU a b))]) ∧ Below w.heap.size w w' := by
  by_cases fa : InF a
  · have O1 := okF_yes fa
    have D := Lib.hid (fun w => l03DivDown_any (-a) b (by unfold InF at fa; unfold In64; omega) hb w)
    have NC := Lib.hid (dvc_neg a b)
    have RI := Lib.hid (res_in (dvc a b) (dvD (-a) b))
    have RN := res_neg (dvc a b) (dvD (-a) b)
    rw [div_up_down] at RN
    have R := Lib.hid RN
    clear RN
    obtain ⟨a0, a1⟩ := fa
    clear ha hb
    go_enter Try.func180, Try.ntmps180
    go_wp2_with fail
    refine (l03Ok_any a _).mono ?_
    rintro e w0 ⟨rfl, rfl⟩
    go_wp2_with fail
    refine (D.out _).mono ?_
    rintro e w1 ⟨rfl, hb1⟩
    have hs1 : _ ≤ w1.heap.size := hb1.size
    try simp at hs1
    rw [NC.out, R.out.2]
    have r0 : -1152921504606846976 ≤ resI (dvc a b) (dvD (-a) b) := RI.out.1
    have r1 : resI (dvc a b) (dvD (-a) b) ≤ 1152921504606846976 := RI.out.2
    go_wp2
    go_ret2
    exact ⟨(by first | (rw [R.out.1]; done) | (rw [R.out.1]; rfl) | (simp [R.out.1]; done)), belB⟩
  · have O1 := okF_no fa
    have E := Lib.hid (res_none (v := dvU a b) (dvc_no (a := a) (b := b) (fun h => fa h.1)))
    clear fa ha hb
    go_enter Try.func180, Try.ntmps180
    go_wp2_with fail
    refine (l03Ok_any a _).mono ?_
    rintro e w0 ⟨rfl, rfl⟩
    go_wp2
    go_ret2
    exact ⟨(by first | (rw [E.out.1, E.out.2]; done) | (rw [E.out.1, E.out.2]; rfl) | (simp [E.out.1, E.out.2]; done)), belB⟩
end Go.Proofs.Ytmikjgbojknlnaa
