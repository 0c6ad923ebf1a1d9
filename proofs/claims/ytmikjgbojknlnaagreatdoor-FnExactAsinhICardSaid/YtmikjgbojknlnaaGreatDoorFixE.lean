/- Contracts of quotients and products of fixes in the model. Conditions: numbers are int64. -/
import Derived.Test.YtmikjgbojknlnaaGreatDoorNumZ
import Derived.Test.YtmikjgbojknlnaaGreatDoorFixA
namespace Go.Proofs.YtmikjgbojknlnaaGreatDoor
open Go.ChangeShapes Go.WideShapes Go.ChangeAt Go.RowKit
set_option linter.unusedVariables false
set_option maxRecDepth 100000
set_option linter.unusedSimpArgs false
set_option maxHeartbeats 1000000

theorem md_unit (a d : Int) : mdI a 4294967296 d = (if 1 ≤ d then intW (a * 4294967296 / d) else 0) ∧ mdB a 4294967296 d = (if 1 ≤ d then okW (a * 4294967296 / d) else false) := ⟨rfl, rfl⟩
theorem l03Floor_any (a b : Int) (ha : In64 a) (hb : In64 b) (w : World) : Calls Tryz.prog 219 #[.int .i64 a, .int .i64 b] w fun e w' =>
    e = .returned (.tuple #[.int .i64 (resI (okD b) (quoW (a * 4294967296) b)), .bool (resB (okD b) (quoW (a * 4294967296) b))]) ∧ Below w.heap.size w w' := by
  by_cases d0 : 1 ≤ b
  · have O := Lib.hid (show okD b = true from decide_eq_true d0)
    have Q := Lib.hid (show quoW (a * 4294967296) b = a * 4294967296 / b from if_pos d0)
    have M := Lib.hid (fun w => sMulDivFloor_any a 4294967296 b ha (by unfold In64; omega) hb w)
    have M1 := Lib.hid (show mdI a 4294967296 b = intW (a * 4294967296 / b) from if_pos d0)
    have M2 := Lib.hid (show mdB a 4294967296 b = okW (a * 4294967296 / b) from if_pos d0)
    have R := Lib.hid (res_word (a * 4294967296 / b))
    have dp : ¬ b ≤ 0 := by omega
    clear d0 ha hb
    go_enter Tryz.func219, Tryz.ntmps219
    go_wp2_with fail
    refine (M.out _).mono ?_
    rintro e w1 ⟨rfl, hb1⟩
    have hs1 : _ ≤ w1.heap.size := hb1.size
    try simp at hs1
    rw [M1.out, M2.out]
    go_wp2_with fail
    refine (l03End_any _ _ _).mono ?_
    rintro e w2 ⟨rfl, rfl⟩
    rw [R.out.1, R.out.2]
    go_wp2
    go_ret2
    exact ⟨(by first | (rw [O.out, Q.out]; done) | (rw [O.out, Q.out]; rfl) | (simp [O.out, Q.out]; done)), belB⟩
  · have E := Lib.hid (res_none (v := quoW (a * 4294967296) b) (show okD b = false from decide_eq_false d0))
    have dp : b ≤ 0 := by omega
    clear d0 ha hb
    go_enter Tryz.func219, Tryz.ntmps219
    go_wp2
    go_ret2
    exact ⟨(by first | (rw [E.out.1, E.out.2]; done) | (rw [E.out.1, E.out.2]; rfl) | (simp [E.out.1, E.out.2]; done)), belB⟩
theorem res_succ {x : Int} (h : In64 x) : resI true (wrap64 (x + 1)) = resI true (x + 1) ∧ resB true (wrap64 (x + 1)) = resB true (x + 1) := by
  by_cases c : In64 (x + 1)
  · rw [wrap64_self c]; exact ⟨rfl, rfl⟩
  · have e : x = 9223372036854775807 := by unfold In64 at *; omega
    subst e
    exact ⟨by decide +kernel, by decide +kernel⟩
theorem res_wide {v : Int} (h : ¬ In64 v) : (resI true (v + 1) = 0 ∧ resB true (v + 1) = false) ∧ (resI true v = 0 ∧ resB true v = false) := by
  refine ⟨res_over ?_, res_over ?_⟩ <;> (unfold In64 at h; unfold InF; omega)
theorem l03Ceil_any (a b : Int) (ha : In64 a) (hb : In64 b) (w : World) : Calls Tryz.prog 220 #[.int .i64 a, .int .i64 b] w fun e w' =>
    e = .returned (.tuple #[.int .i64 (resI (okD b) (upW (a * 4294967296) b)), .bool (resB (okD b) (upW (a * 4294967296) b))]) ∧ Below w.heap.size w w' := by
  by_cases d0 : 1 ≤ b
  · have O := Lib.hid (show okD b = true from decide_eq_true d0)
    have Q := Lib.hid (show upW (a * 4294967296) b = cei (a * 4294967296) b from if_pos d0)
    have M := Lib.hid (fun w => sMulDivFloor_any a 4294967296 b ha (by unfold In64; omega) hb w)
    have M1 := Lib.hid (show mdI a 4294967296 b = intW (a * 4294967296 / b) from if_pos d0)
    have M2 := Lib.hid (show mdB a 4294967296 b = okW (a * 4294967296 / b) from if_pos d0)
    have dp : ¬ b ≤ 0 := by omega
    by_cases s : In64 (a * 4294967296 / b)
    · have I1 := Lib.hid (intW_self s)
      have I2 := Lib.hid (okW_yes s)
      have SM := same_mod (v := a * 4294967296) d0 hb
      by_cases r : a * 4294967296 % b = 0
      · have C := Lib.hid (cei_exact d0 r)
        have T := SM.2 r
        have T0 : (wrap64 (a * 4294967296 / b * b) == wrap64 (a * 4294967296)) = true := by simpa using T
        clear T SM r
        generalize a * 4294967296 / b = q at *
        clear d0 ha hb s
        go_enter Tryz.func220, Tryz.ntmps220
        go_wp2_with fail
        refine (M.out _).mono ?_
        rintro e w1 ⟨rfl, hb1⟩
        have hs1 : _ ≤ w1.heap.size := hb1.size
        try simp at hs1
        rw [M1.out, M2.out, I1.out, I2.out]
        go_wp2_with fail
        refine (l03End_any _ _ _).mono ?_
        rintro e w2 ⟨rfl, rfl⟩
        go_wp2
        go_ret2
        exact ⟨(by first | (rw [O.out, Q.out, C.out]; done) | (rw [O.out, Q.out, C.out]; rfl) | (simp [O.out, Q.out, C.out]; done)), belB⟩
      · have C := Lib.hid (cei_more d0 r)
        have T0 : (wrap64 (a * 4294967296 / b * b) == wrap64 (a * 4294967296)) = false := by
          rw [Bool.eq_false_iff]; intro h; exact r (SM.1 (by simpa using h))
        have RS := Lib.hid (res_succ s)
        clear SM r
        generalize a * 4294967296 / b = q at *
        clear d0 ha hb s
        go_enter Tryz.func220, Tryz.ntmps220
        go_wp2_with fail
        refine (M.out _).mono ?_
        rintro e w1 ⟨rfl, hb1⟩
        have hs1 : _ ≤ w1.heap.size := hb1.size
        try simp at hs1
        rw [M1.out, M2.out, I1.out, I2.out]
        go_wp2_with fail
        refine (l03End_any _ _ _).mono ?_
        rintro e w2 ⟨rfl, rfl⟩
        rw [RS.out.1, RS.out.2]
        go_wp2
        go_ret2
        exact ⟨(by first | (rw [O.out, Q.out, C.out]; done) | (rw [O.out, Q.out, C.out]; rfl) | (simp [O.out, Q.out, C.out]; done)), belB⟩
    · have I2 := Lib.hid (okW_no s)
      have E : resI true (upW (a * 4294967296) b) = 0 ∧ resB true (upW (a * 4294967296) b) = false := by
        rw [Q.out]
        by_cases r : a * 4294967296 % b = 0
        · rw [cei_exact d0 r]; exact (res_wide s).2
        · rw [cei_more d0 r]; exact (res_wide s).1
      have E' := Lib.hid E
      clear E d0 s ha hb
      go_enter Tryz.func220, Tryz.ntmps220
      go_wp2_with fail
      refine (M.out _).mono ?_
      rintro e w1 ⟨rfl, hb1⟩
      have hs1 : _ ≤ w1.heap.size := hb1.size
      try simp at hs1
      rw [M1.out, M2.out, I2.out]
      go_wp2
      go_ret2
      exact ⟨(by first | (rw [O.out, E'.out.1, E'.out.2]; done) | (rw [O.out, E'.out.1, E'.out.2]; rfl) | (simp [O.out, E'.out.1, E'.out.2]; done)), belB⟩
  · have E := Lib.hid (res_none (v := upW (a * 4294967296) b) (show okD b = false from decide_eq_false d0))
    have dp : b ≤ 0 := by omega
    clear d0 ha hb
    go_enter Tryz.func220, Tryz.ntmps220
    go_wp2
    go_ret2
    exact ⟨(by first | (rw [E.out.1, E.out.2]; done) | (rw [E.out.1, E.out.2]; rfl) | (simp [E.out.1, E.out.2]; done)), belB⟩
theorem mdc_yes {a b : Int} (h : InF a) (k : InF b) : mdc a b = true := decide_eq_true ⟨h, k⟩
theorem mdc_no {a b : Int} (h : ¬ (InF a ∧ InF b)) : mdc a b = false := decide_eq_false h
theorem mf_unit (a b : Int) : mfI a b 32 = intW (a * b / 4294967296) ∧ mfB a b 32 = okW (a * b / 4294967296) := by
  unfold mfI mfB
  rw [if_pos (by omega), if_pos (by omega), shr_unit]; exact ⟨rfl, rfl⟩
theorem l03MulDown_any (a b : Int) (ha : In64 a) (hb : In64 b) (w : World) : Calls Tryz.prog 113 #[.int .i64 a, .int .i64 b] w fun e w' =>
    e = .returned (.tuple #[.int .i64 (resI (mdc a b) (a * b / 4294967296)), .bool (resB (mdc a b) (a * b / 4294967296))]) ∧ Below w.heap.size w w' := by
  by_cases fa : InF a
  · have O1 := okF_yes fa
    by_cases fb : InF b
    · have O2 := okF_yes fb
      have D := Lib.hid (mdc_yes fa fb)
      have M := Lib.hid (fun w => sMulFloor_any a b 32 ha hb (by unfold In64; omega) w)
      have M1 := Lib.hid (mf_unit a b)
      have R := Lib.hid (res_word (a * b / 4294967296))
      clear fa fb ha hb
      go_enter Tryz.func113, Tryz.ntmps113
      go_wp2_with fail
      refine (l03Ok_any a _).mono ?_
      rintro e w0 ⟨rfl, rfl⟩
      go_wp2_with fail
      refine (l03Ok_any b _).mono ?_
      rintro e w0 ⟨rfl, rfl⟩
      go_wp2_with fail
      refine (M.out _).mono ?_
      rintro e w1 ⟨rfl, hb1⟩
      have hs1 : _ ≤ w1.heap.size := hb1.size
      try simp at hs1
      rw [M1.out.1, M1.out.2]
      go_wp2_with fail
      refine (l03End_any _ _ _).mono ?_
      rintro e w2 ⟨rfl, rfl⟩
      rw [R.out.1, R.out.2]
      go_wp2
      go_ret2
      exact ⟨(by first | (rw [D.out]; done) | (rw [D.out]; rfl) | (simp [D.out]; done)), belB⟩
    · have O2 := okF_no fb
      have E := Lib.hid (res_none (v := a * b / 4294967296) (mdc_no (a := a) (b := b) (fun h => fb h.2)))
      clear fa fb ha hb
      go_enter Tryz.func113, Tryz.ntmps113
      go_wp2_with fail
      refine (l03Ok_any a _).mono ?_
      rintro e w0 ⟨rfl, rfl⟩
      go_wp2_with fail
      refine (l03Ok_any b _).mono ?_
      rintro e w0 ⟨rfl, rfl⟩
      go_wp2
      go_ret2
      exact ⟨(by first | (rw [E.out.1, E.out.2]; done) | (rw [E.out.1, E.out.2]; rfl) | (simp [E.out.1, E.out.2]; done)), belB⟩
  · have O1 := okF_no fa
    have E := Lib.hid (res_none (v := a * b / 4294967296) (mdc_no (a := a) (b := b) (fun h => fa h.1)))
    clear fa ha hb
    go_enter Tryz.func113, Tryz.ntmps113
    go_wp2_with fail
    refine (l03Ok_any a _).mono ?_
    rintro e w0 ⟨rfl, rfl⟩
    go_wp2
    go_ret2
    exact ⟨(by first | (rw [E.out.1, E.out.2]; done) | (rw [E.out.1, E.out.2]; rfl) | (simp [E.out.1, E.out.2]; done)), belB⟩
theorem l03MulUp_any (a b : Int) (ha : In64 a) (hb : In64 b) (w : World) : Calls Tryz.prog 114 #[.int .i64 a, .int .i64 b] w fun e w' =>
    e = .returned (.tuple #[.int .i64 (resI (mdc a b) (cei (a * b) 4294967296)), .bool (resB (mdc a b) (cei (a * b) 4294967296))]) ∧ Below w.heap.size w w' := by
  by_cases fa : InF a
  · have O1 := okF_yes fa
    have D := Lib.hid (fun w => l03MulDown_any (-a) b (by unfold InF at fa; unfold In64; omega) hb w)
    have NC := Lib.hid (mdc_neg a b)
    have RI := Lib.hid (res_in (mdc a b) (-a * b / 4294967296))
    have RN := res_neg (mdc a b) (-a * b / 4294967296)
    rw [mul_up_down] at RN
    have R := Lib.hid RN
    clear RN
    obtain ⟨a0, a1⟩ := fa
    clear ha hb
    cases hr : resB (mdc a b) (cei (a * b) 4294967296)
    · have E0 : resI (mdc a b) (cei (a * b) 4294967296) = 0 := by
        have := of_decide_eq_false hr; exact if_neg this
      have E := Lib.hid E0
      have H := Lib.hid hr
      clear hr E0
      go_enter Tryz.func114, Tryz.ntmps114
      go_wp2_with fail
      refine (D.out _).mono ?_
      rintro e w1 ⟨rfl, hb1⟩
      have hs1 : _ ≤ w1.heap.size := hb1.size
      try simp at hs1
      rw [NC.out, R.out.2, H.out]
      go_wp2_with fail
      refine (l03Ok_any a _).mono ?_
      rintro e w0 ⟨rfl, rfl⟩
      go_wp2
      go_ret2
      exact ⟨(by first | (rw [E.out]; done) | (rw [E.out]; rfl) | (simp [E.out]; done)), belB⟩
    · have H := Lib.hid hr
      clear hr
      go_enter Tryz.func114, Tryz.ntmps114
      go_wp2_with fail
      refine (D.out _).mono ?_
      rintro e w1 ⟨rfl, hb1⟩
      have hs1 : _ ≤ w1.heap.size := hb1.size
      try simp at hs1
      rw [NC.out, R.out.2, H.out]
      have r0 : -1152921504606846976 ≤ resI (mdc a b) (-a * b / 4294967296) := RI.out.1
      have r1 : resI (mdc a b) (-a * b / 4294967296) ≤ 1152921504606846976 := RI.out.2
      go_wp2_with fail
      refine (l03Ok_any a _).mono ?_
      rintro e w0 ⟨rfl, rfl⟩
      go_wp2
      go_ret2
      exact ⟨(by first | (rw [R.out.1]; done) | (rw [R.out.1]; rfl) | (simp [R.out.1]; done)), belB⟩
  · have O1 := okF_no fa
    have E := Lib.hid (res_none (v := cei (a * b) 4294967296) (mdc_no (a := a) (b := b) (fun h => fa h.1)))
    have D := Lib.hid (fun w => l03MulDown_any (wrap64 (-a)) b (in64_wrap _) hb w)
    clear fa ha hb
    go_enter Tryz.func114, Tryz.ntmps114
    go_wp2_with fail
    refine (D.out _).mono ?_
    rintro e w1 ⟨rfl, hb1⟩
    have hs1 : _ ≤ w1.heap.size := hb1.size
    try simp at hs1
    go_wp2_with fail
    refine (l03Ok_any a _).mono ?_
    rintro e w0 ⟨rfl, rfl⟩
    go_wp2
    go_ret2
    exact ⟨(by first | (rw [E.out.1, E.out.2]; done) | (rw [E.out.1, E.out.2]; rfl) | (simp [E.out.1, E.out.2]; done)), belB⟩
theorem dvc_yes {a b : Int} (h : InF a) (k : InF b) (z : ¬ b = 0) : dvc a b = true := decide_eq_true ⟨h, k, z⟩
theorem dvc_no {a b : Int} (h : ¬ (InF a ∧ InF b ∧ ¬ b = 0)) : dvc a b = false := decide_eq_false h
theorem l03DivDown_any (a b : Int) (ha : In64 a) (hb : In64 b) (w : World) : Calls Tryz.prog 129 #[.int .i64 a, .int .i64 b] w fun e w' =>
    e = .returned (.tuple #[.int .i64 (resI (dvc a b) (dvD a b)), .bool (resB (dvc a b) (dvD a b))]) ∧ Below w.heap.size w w' := by
  by_cases fa : InF a
  · have O1 := okF_yes fa
    by_cases fb : InF b
    · have O2 := okF_yes fb
      by_cases z : b = 0
      · have E := Lib.hid (res_none (v := dvD a b) (dvc_no (a := a) (b := b) (fun h => h.2.2 z)))
        clear fa fb ha hb
        subst z
        go_enter Tryz.func129, Tryz.ntmps129
        go_wp2_with fail
        refine (l03Ok_any a _).mono ?_
        rintro e w0 ⟨rfl, rfl⟩
        go_wp2_with fail
        refine (l03Ok_any 0 _).mono ?_
        rintro e w0 ⟨rfl, rfl⟩
        go_wp2
        go_ret2
        exact ⟨(by first | (rw [E.out.1, E.out.2]; done) | (rw [E.out.1, E.out.2]; rfl) | (simp [E.out.1, E.out.2]; done)), belB⟩
      · have D := Lib.hid (dvc_yes fa fb z)
        have z0 : (b == 0) = false := by simpa using z
        by_cases s : b < 0
        · obtain ⟨q, hq⟩ : ∃ q, q = -a * 4294967296 / -b := ⟨_, rfl⟩
          have dv := Lib.hid (show dvD a b = q by rw [hq]; exact if_pos s)
          have M := Lib.hid (fun w => sMulDivFloor_any (-a) 4294967296 (-b) (by unfold InF at *; unfold In64; omega) (by unfold In64; omega) (by unfold InF at *; unfold In64; omega) w)
          have M1 := Lib.hid (show mdI (-a) 4294967296 (-b) = intW q by rw [hq]; exact if_pos (by omega))
          have M2 := Lib.hid (show mdB (-a) 4294967296 (-b) = okW q by rw [hq]; exact if_pos (by omega))
          have R := Lib.hid (res_word q)
          clear hq
          obtain ⟨a0, a1⟩ := fa
          obtain ⟨b0, b1⟩ := fb
          clear ha hb z
          go_enter Tryz.func129, Tryz.ntmps129
          go_wp2_with fail
          refine (l03Ok_any a _).mono ?_
          rintro e w0 ⟨rfl, rfl⟩
          go_wp2_with fail
          refine (l03Ok_any b _).mono ?_
          rintro e w0 ⟨rfl, rfl⟩
          go_wp2_with fail
          refine (M.out _).mono ?_
          rintro e w1 ⟨rfl, hb1⟩
          have hs1 : _ ≤ w1.heap.size := hb1.size
          try simp at hs1
          rw [M1.out, M2.out]
          go_wp2_with fail
          refine (l03End_any _ _ _).mono ?_
          rintro e w2 ⟨rfl, rfl⟩
          rw [R.out.1, R.out.2]
          go_wp2
          go_ret2
          exact ⟨(by first | (rw [D.out, dv.out]; done) | (rw [D.out, dv.out]; rfl) | (simp [D.out, dv.out]; done)), belB⟩
        · obtain ⟨q, hq⟩ : ∃ q, q = a * 4294967296 / b := ⟨_, rfl⟩
          have dv := Lib.hid (show dvD a b = q by rw [hq]; exact if_neg s)
          have M := Lib.hid (fun w => sMulDivFloor_any a 4294967296 b (by unfold InF at *; unfold In64; omega) (by unfold In64; omega) (by unfold InF at *; unfold In64; omega) w)
          have M1 := Lib.hid (show mdI a 4294967296 b = intW q by rw [hq]; exact if_pos (by omega))
          have M2 := Lib.hid (show mdB a 4294967296 b = okW q by rw [hq]; exact if_pos (by omega))
          have R := Lib.hid (res_word q)
          clear hq
          obtain ⟨a0, a1⟩ := fa
          obtain ⟨b0, b1⟩ := fb
          clear ha hb z
          go_enter Tryz.func129, Tryz.ntmps129
          go_wp2_with fail
          refine (l03Ok_any a _).mono ?_
          rintro e w0 ⟨rfl, rfl⟩
          go_wp2_with fail
          refine (l03Ok_any b _).mono ?_
          rintro e w0 ⟨rfl, rfl⟩
          go_wp2_with fail
          refine (M.out _).mono ?_
          rintro e w1 ⟨rfl, hb1⟩
          have hs1 : _ ≤ w1.heap.size := hb1.size
          try simp at hs1
          rw [M1.out, M2.out]
          go_wp2_with fail
          refine (l03End_any _ _ _).mono ?_
          rintro e w2 ⟨rfl, rfl⟩
          rw [R.out.1, R.out.2]
          go_wp2
          go_ret2
          exact ⟨(by first | (rw [D.out, dv.out]; done) | (rw [D.out, dv.out]; rfl) | (simp [D.out, dv.out]; done)), belB⟩
    · have O2 := okF_no fb
      have E := Lib.hid (res_none (v := dvD a b) (dvc_no (a := a) (b := b) (fun h => fb h.2.1)))
      clear fa fb ha hb
      go_enter Tryz.func129, Tryz.ntmps129
      go_wp2_with fail
      refine (l03Ok_any a _).mono ?_
      rintro e w0 ⟨rfl, rfl⟩
      go_wp2_with fail
      refine (l03Ok_any b _).mono ?_
      rintro e w0 ⟨rfl, rfl⟩
      go_wp2
      go_ret2
      exact ⟨(by first | (rw [E.out.1, E.out.2]; done) | (rw [E.out.1, E.out.2]; rfl) | (simp [E.out.1, E.out.2]; done)), belB⟩
  · have O1 := okF_no fa
    have E := Lib.hid (res_none (v := dvD a b) (dvc_no (a := a) (b := b) (fun h => fa h.1)))
    clear fa ha hb
    go_enter Tryz.func129, Tryz.ntmps129
    go_wp2_with fail
    refine (l03Ok_any a _).mono ?_
    rintro e w0 ⟨rfl, rfl⟩
    go_wp2
    go_ret2
    exact ⟨(by first | (rw [E.out.1, E.out.2]; done) | (rw [E.out.1, E.out.2]; rfl) | (simp [E.out.1, E.out.2]; done)), belB⟩
theorem l03DivUp_any (a b : Int) (ha : In64 a) (hb : In64 b) (w : World) : Calls Tryz.prog 130 #[.int .i64 a, .int .i64 b] w fun e w' =>
    e = .returned (.tuple #[.int .i64 (resI (dvc a b) (dvU a b)), .bool (resB (dvc a b) (dvU a b))]) ∧ Below w.heap.size w w' := by
  by_cases fa : InF a
  · have O1 := okF_yes fa
    have D := Lib.hid (fun w => l03DivDown_any (-a) b (by unfold InF at fa; unfold In64; omega) hb w)
    have NC := Lib.hid (dvc_neg a b)
    have RI := Lib.hid (res_in (dvc a b) (dvD (-a) b))
    have RN := res_neg (dvc a b) (dvD (-a) b)
    rw [div_up_down] at RN
    have R := Lib.hid RN
    clear RN
    obtain ⟨a0, a1⟩ := fa
    clear ha hb
    go_enter Tryz.func130, Tryz.ntmps130
    go_wp2_with fail
    refine (l03Ok_any a _).mono ?_
    rintro e w0 ⟨rfl, rfl⟩
    go_wp2_with fail
    refine (D.out _).mono ?_
    rintro e w1 ⟨rfl, hb1⟩
    have hs1 : _ ≤ w1.heap.size := hb1.size
    try simp at hs1
    rw [NC.out, R.out.2]
    have r0 : -1152921504606846976 ≤ resI (dvc a b) (dvD (-a) b) := RI.out.1
    have r1 : resI (dvc a b) (dvD (-a) b) ≤ 1152921504606846976 := RI.out.2
    go_wp2
    go_ret2
    exact ⟨(by first | (rw [R.out.1]; done) | (rw [R.out.1]; rfl) | (simp [R.out.1]; done)), belB⟩
  · have O1 := okF_no fa
    have E := Lib.hid (res_none (v := dvU a b) (dvc_no (a := a) (b := b) (fun h => fa h.1)))
    clear fa ha hb
    go_enter Tryz.func130, Tryz.ntmps130
    go_wp2_with fail
    refine (l03Ok_any a _).mono ?_
    rintro e w0 ⟨rfl, rfl⟩
    go_wp2
    go_ret2
    exact ⟨(by first | (rw [E.out.1, E.out.2]; done) | (rw [E.out.1, E.out.2]; rfl) | (simp [E.out.1, E.out.2]; done)), belB⟩
end Go.Proofs.YtmikjgbojknlnaaGreatDoor
