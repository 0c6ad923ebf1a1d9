/- The text of a rounded number of units. Conditions: as each says. -/
import Derived.Test.YtohidondlndkhaaDoorTxP
import Derived.Deep.QuietTactic
import Derived.Deep.RegionWith
namespace Go.Proofs.YtohidondlndkhaaDoor
open Go.ChangeShapes Go.WideShapes Go.ChangeAt Go.RowKit
set_option linter.unusedVariables false
set_option maxRecDepth 100000
set_option linter.unusedSimpArgs false
set_option maxHeartbeats 1000000

theorem decimalOf_none_down (d : Int) (w : World) : Calls Tryd.prog 14 #[.func (Fn.func 16) #[.agg #[.int .i64 0, .int .u64 0, .int .i64 0]] #[], .int .i64 d] w fun e w' =>
    e = .returned (.string ⟨#[]⟩) ∧ Below w.heap.size w w' := by
  have C := Lib.hid (fun w => ratio_down 0 0 (by unfold InW; omega) (by unfold In64; omega) w)
  have h1 : hiW 0 = 0 := by decide
  have h2 : loW 0 = 0 := by decide
  have h3 : okD 0 = false := by decide
  rw [h1, h2, h3] at C
  clear h1 h2 h3
  go_enter Tryd.func14, Tryd.ntmps14
  go_wp2_with fail
  refine (C.out _).mono ?_
  rintro e w1 ⟨rfl, hb1⟩
  have hs1 : _ ≤ w1.heap.size := hb1.size
  try simp at hs1
  go_wp2
  go_ret
  exact ⟨rfl, belB⟩
theorem decimalOf_down (va : Value) (x : Int) (hx : InW x) (C : ∀ w, Calls Tryd.prog 16 #[va] w fun e w' => e = .returned (.tuple #[.agg #[.int .i64 (hiW x), .int .u64 (loW x)], .bool true]) ∧ Below w.heap.size w w') (k : Nat) (hk : k ≤ 9) (w : World) (ht : Tab w) : Calls Tryd.prog 14 #[.func (Fn.func 16) #[va] #[], .int .i64 (k : Int)] w fun e w' =>
    e = .returned (.string ⟨(unT x k).toArray⟩) ∧ Below w.heap.size w w' := by
  have CH := Lib.hid C
  have W := Lib.hid (fun w ht => WideText_any x hx w ht)
  have CU := Lib.hid (fun w => CutPrefix_itoa x hx w)
  have l40 : (Lib.decDigits x.natAbs).length ≤ 39 + 1 := dd_len _ 39 (by
    have t : (10 : Nat) ^ (39 + 1) = 10000000000000000000000000000000000000000 := by decide
    unfold InW at hx; omega)
  have lp := dd_pos x.natAbs
  have T1 := Lib.hid (fun w' (hb : Below w.heap.size w w') => tab_below ht hb)
  obtain ⟨T, hT⟩ : ∃ T : ByteArray, (⟨(Lib.decDigits x.natAbs).toArray⟩ : ByteArray) = T := ⟨_, rfl⟩
  have LT := Lib.hid (show T.data.toList = Lib.decDigits x.natAbs by rw [← hT])
  have TS : T.size = (Lib.decDigits x.natAbs).length := by rw [← hT]; rfl
  rw [hT] at CU
  rw [← TS] at l40 lp
  generalize (⟨(Lib.itoa x).toArray⟩ : ByteArray) = I at *
  clear hT C ht hx
  obtain ⟨M, hM⟩ : ∃ M : Int, (k : Int) + 1 - (T.size : Int) = M := ⟨_, rfl⟩
  by_cases s : x < 0
  · have ng : decide (x < 0) = true := decide_eq_true s
    rw [ng] at CU
    by_cases kz : k = 0
    · have c1 : ¬ 0 < k := by omega
      have c0 : ¬ (T.size : Int) < (k : Int) + 1 := by omega
      have UT := Lib.hid (show (⟨#[45]⟩ : ByteArray) ++ T = ⟨(unT x k).toArray⟩ by
        apply ByteArray.ext
        apply Array.toList_inj.1
        subst kz
        unfold unT
        rw [if_pos s]
        simp [LT.out, ByteArray.data_append])
      have n0 : ¬ 9223372036854775807 < 1 + T.size := by omega
      clear kz s lp TS
      go_enter Tryd.func14, Tryd.ntmps14
      go_wp2_with fail
      refine (CH.out _).mono ?_
      rintro e w1 ⟨rfl, hb1⟩
      have hs1 : _ ≤ w1.heap.size := hb1.size
      try simp at hs1
      go_wp2_with fail
      refine (W.out _ (T1.out _ belB)).mono ?_
      rintro e w2 ⟨rfl, hb2⟩
      have hs2 : _ ≤ w2.heap.size := hb2.size
      try simp at hs2
      go_wp2_with fail
      refine (CU.out _).mono ?_
      rintro e w3 ⟨rfl, rfl⟩
      go_wp2
      go_ret
      exact ⟨by rw [← UT.out]; rfl, belB⟩
    · have k1 : 1 ≤ k := by omega
      have c1 : 0 < k := by omega
      have FR := front x.natAbs k1
      have PL := padT_len (k := k) (r := x.natAbs % 10 ^ k) k1 (Nat.mod_lt _ (Nat.pow_pos (by omega)))
      have DP := dd_pos (x.natAbs / 10 ^ k)
      rw [← TS] at FR
      obtain ⟨T2, hT2⟩ : ∃ T2 : ByteArray, (⟨(List.replicate (k + 1 - T.size) 48 ++ Lib.decDigits x.natAbs).toArray⟩ : ByteArray) = T2 := ⟨_, rfl⟩
      have L2 : T2.data.toList = Lib.decDigits (x.natAbs / 10 ^ k) ++ padT k (x.natAbs % 10 ^ k) := by rw [← hT2]; exact FR
      have S2 : T2.size = (Lib.decDigits (x.natAbs / 10 ^ k)).length + k := by
        have e : T2.size = T2.data.toList.length := (Array.length_toList).symm
        rw [e, L2, List.length_append, PL]
      have B2 : T2.size ≤ 60 := by
        have e : T2.size = (k + 1 - T.size) + T.size := by
          have q : T2.size = T2.data.toList.length := (Array.length_toList).symm
          rw [q, ← hT2, TS]
          simp
        omega
      obtain ⟨p, hp⟩ : ∃ p : Nat, (T2.size : Int) - (k : Int) = (p : Int) := ⟨T2.size - k, by omega⟩
      have pl : p = (Lib.decDigits (x.natAbs / 10 ^ k)).length := by omega
      have pk : p + k = T2.size := by omega
      obtain ⟨A, hA⟩ : ∃ A : ByteArray, T2.extract 0 p = A := ⟨_, rfl⟩
      obtain ⟨B, hB⟩ : ∃ B : ByteArray, T2.extract p T2.size = B := ⟨_, rfl⟩
      have LA : A.data.toList = Lib.decDigits (x.natAbs / 10 ^ k) := by
        rw [← hA, ByteArray.data_extract, Array.toList_extract, L2, List.extract_eq_take_drop, List.drop_zero, Nat.sub_zero, pl, List.take_left]
      have LB : B.data.toList = padT k (x.natAbs % 10 ^ k) := by
        rw [← hB, ByteArray.data_extract, Array.toList_extract, L2, List.extract_eq_take_drop, pl, List.drop_left, List.take_of_length_le (by rw [PL]; omega)]
      have SA : A.size = p := by rw [← hA, ByteArray.size_extract]; omega
      have SB : B.size = k := by rw [← hB, ByteArray.size_extract]; omega
      have UT := Lib.hid (show (⟨#[45]⟩ : ByteArray) ++ (A ++ (⟨#[46]⟩ : ByteArray) ++ B) = ⟨(unT x k).toArray⟩ by
        apply ByteArray.ext
        apply Array.toList_inj.1
        unfold unT
        rw [if_pos s, if_neg kz]
        simp [LA, LB, ByteArray.data_append])
      have n2 : ¬ 9223372036854775807 < A.size + 1 := by omega
      have n3 : ¬ 9223372036854775807 < A.size + 1 + B.size := by omega
      have n4 : ¬ 9223372036854775807 < 1 + (A.size + 1 + B.size) := by omega
      have p2 : p ≤ T2.size := by omega
      by_cases m : 0 < M
      · have c0 : (T.size : Int) < (k : Int) + 1 := by omega
        obtain ⟨mn, hmn⟩ : ∃ mn : Nat, M = (mn : Int) := ⟨M.toNat, by omega⟩
        subst hmn
        have RP := Lib.hid (fun w => Tryd.strings_Repeat ⟨#[48]⟩ mn w (by omega) (by show 1 * mn ≤ _; omega))
        obtain ⟨Z, hZ⟩ : ∃ Z : ByteArray, (⟨(Lib.repeatL (⟨#[48]⟩ : ByteArray).data.toList mn).toArray⟩ : ByteArray) = Z := ⟨_, rfl⟩
        have ZT : Z ++ T = T2 := by
          rw [← hZ, ← hT2]
          apply ByteArray.ext
          apply Array.toList_inj.1
          rw [ByteArray.data_append, Array.toList_append, LT.out, show k + 1 - T.size = mn by omega]
          show Lib.repeatL [48] mn ++ _ = _
          rw [rep_zero]
        have ZS : Z.size = mn := by
          rw [← hZ]
          show (Lib.repeatL [48] mn).length = mn
          rw [rep_zero, List.length_replicate]
        have n1 : ¬ 9223372036854775807 < Z.size + T.size := by omega
        rw [hZ] at RP
        clear hZ hT2 FR PL DP L2 S2 pl LA LB s lp TS kz ZS
        go_enter Tryd.func14, Tryd.ntmps14
        go_wp2_with fail
        refine (CH.out _).mono ?_
        rintro e w1 ⟨rfl, hb1⟩
        have hs1 : _ ≤ w1.heap.size := hb1.size
        try simp at hs1
        go_wp2_with fail
        refine (W.out _ (T1.out _ belB)).mono ?_
        rintro e w2 ⟨rfl, hb2⟩
        have hs2 : _ ≤ w2.heap.size := hb2.size
        try simp at hs2
        go_wp2_with fail
        refine (CU.out _).mono ?_
        rintro e w3 ⟨rfl, rfl⟩
        go_wp2_with fail
        refine (RP.out _).mono ?_
        rintro e w4 ⟨rfl, hb4⟩
        have hs4 : _ ≤ w4.heap.size := hb4.size
        try simp at hs4
        go_wp2
        first | go_quiet (fail) | go_region_with (fail)
        go_wp2
        go_ret
        exact ⟨by rw [← UT.out]; rfl, belB⟩
  
      · have c0 : ¬ (T.size : Int) < (k : Int) + 1 := by omega
        have TT : T2 = T := by
          rw [← hT2, show k + 1 - T.size = 0 by omega]
          apply ByteArray.ext
          apply Array.toList_inj.1
          rw [LT.out]; simp
        subst TT
        clear hT2 FR PL DP L2 S2 pl LA LB s lp TS kz
        go_enter Tryd.func14, Tryd.ntmps14
        go_wp2_with fail
        refine (CH.out _).mono ?_
        rintro e w1 ⟨rfl, hb1⟩
        have hs1 : _ ≤ w1.heap.size := hb1.size
        try simp at hs1
        go_wp2_with fail
        refine (W.out _ (T1.out _ belB)).mono ?_
        rintro e w2 ⟨rfl, hb2⟩
        have hs2 : _ ≤ w2.heap.size := hb2.size
        try simp at hs2
        go_wp2_with fail
        refine (CU.out _).mono ?_
        rintro e w3 ⟨rfl, rfl⟩
        go_wp2
        first | go_quiet (fail) | go_region_with (fail)
        go_wp2
        go_ret
        exact ⟨by rw [← UT.out]; rfl, belB⟩
  
  · have ng : decide (x < 0) = false := decide_eq_false s
    rw [ng] at CU
    by_cases kz : k = 0
    · have c1 : ¬ 0 < k := by omega
      have c0 : ¬ (T.size : Int) < (k : Int) + 1 := by omega
      have UT := Lib.hid (show T = ⟨(unT x k).toArray⟩ by
        apply ByteArray.ext
        apply Array.toList_inj.1
        subst kz
        unfold unT
        rw [if_neg s]
        simp [LT.out, ByteArray.data_append])
      clear kz s lp TS
      go_enter Tryd.func14, Tryd.ntmps14
      go_wp2_with fail
      refine (CH.out _).mono ?_
      rintro e w1 ⟨rfl, hb1⟩
      have hs1 : _ ≤ w1.heap.size := hb1.size
      try simp at hs1
      go_wp2_with fail
      refine (W.out _ (T1.out _ belB)).mono ?_
      rintro e w2 ⟨rfl, hb2⟩
      have hs2 : _ ≤ w2.heap.size := hb2.size
      try simp at hs2
      go_wp2_with fail
      refine (CU.out _).mono ?_
      rintro e w3 ⟨rfl, rfl⟩
      go_wp2
      go_ret
      exact ⟨by rw [← UT.out]; rfl, belB⟩
    · have k1 : 1 ≤ k := by omega
      have c1 : 0 < k := by omega
      have FR := front x.natAbs k1
      have PL := padT_len (k := k) (r := x.natAbs % 10 ^ k) k1 (Nat.mod_lt _ (Nat.pow_pos (by omega)))
      have DP := dd_pos (x.natAbs / 10 ^ k)
      rw [← TS] at FR
      obtain ⟨T2, hT2⟩ : ∃ T2 : ByteArray, (⟨(List.replicate (k + 1 - T.size) 48 ++ Lib.decDigits x.natAbs).toArray⟩ : ByteArray) = T2 := ⟨_, rfl⟩
      have L2 : T2.data.toList = Lib.decDigits (x.natAbs / 10 ^ k) ++ padT k (x.natAbs % 10 ^ k) := by rw [← hT2]; exact FR
      have S2 : T2.size = (Lib.decDigits (x.natAbs / 10 ^ k)).length + k := by
        have e : T2.size = T2.data.toList.length := (Array.length_toList).symm
        rw [e, L2, List.length_append, PL]
      have B2 : T2.size ≤ 60 := by
        have e : T2.size = (k + 1 - T.size) + T.size := by
          have q : T2.size = T2.data.toList.length := (Array.length_toList).symm
          rw [q, ← hT2, TS]
          simp
        omega
      obtain ⟨p, hp⟩ : ∃ p : Nat, (T2.size : Int) - (k : Int) = (p : Int) := ⟨T2.size - k, by omega⟩
      have pl : p = (Lib.decDigits (x.natAbs / 10 ^ k)).length := by omega
      have pk : p + k = T2.size := by omega
      obtain ⟨A, hA⟩ : ∃ A : ByteArray, T2.extract 0 p = A := ⟨_, rfl⟩
      obtain ⟨B, hB⟩ : ∃ B : ByteArray, T2.extract p T2.size = B := ⟨_, rfl⟩
      have LA : A.data.toList = Lib.decDigits (x.natAbs / 10 ^ k) := by
        rw [← hA, ByteArray.data_extract, Array.toList_extract, L2, List.extract_eq_take_drop, List.drop_zero, Nat.sub_zero, pl, List.take_left]
      have LB : B.data.toList = padT k (x.natAbs % 10 ^ k) := by
        rw [← hB, ByteArray.data_extract, Array.toList_extract, L2, List.extract_eq_take_drop, pl, List.drop_left, List.take_of_length_le (by rw [PL]; omega)]
      have SA : A.size = p := by rw [← hA, ByteArray.size_extract]; omega
      have SB : B.size = k := by rw [← hB, ByteArray.size_extract]; omega
      have UT := Lib.hid (show (A ++ (⟨#[46]⟩ : ByteArray) ++ B) = ⟨(unT x k).toArray⟩ by
        apply ByteArray.ext
        apply Array.toList_inj.1
        unfold unT
        rw [if_neg s, if_neg kz]
        simp [LA, LB, ByteArray.data_append])
      have n2 : ¬ 9223372036854775807 < A.size + 1 := by omega
      have n3 : ¬ 9223372036854775807 < A.size + 1 + B.size := by omega
      have n4 : ¬ 9223372036854775807 < 1 + (A.size + 1 + B.size) := by omega
      have p2 : p ≤ T2.size := by omega
      by_cases m : 0 < M
      · have c0 : (T.size : Int) < (k : Int) + 1 := by omega
        obtain ⟨mn, hmn⟩ : ∃ mn : Nat, M = (mn : Int) := ⟨M.toNat, by omega⟩
        subst hmn
        have RP := Lib.hid (fun w => Tryd.strings_Repeat ⟨#[48]⟩ mn w (by omega) (by show 1 * mn ≤ _; omega))
        obtain ⟨Z, hZ⟩ : ∃ Z : ByteArray, (⟨(Lib.repeatL (⟨#[48]⟩ : ByteArray).data.toList mn).toArray⟩ : ByteArray) = Z := ⟨_, rfl⟩
        have ZT : Z ++ T = T2 := by
          rw [← hZ, ← hT2]
          apply ByteArray.ext
          apply Array.toList_inj.1
          rw [ByteArray.data_append, Array.toList_append, LT.out, show k + 1 - T.size = mn by omega]
          show Lib.repeatL [48] mn ++ _ = _
          rw [rep_zero]
        have ZS : Z.size = mn := by
          rw [← hZ]
          show (Lib.repeatL [48] mn).length = mn
          rw [rep_zero, List.length_replicate]
        have n1 : ¬ 9223372036854775807 < Z.size + T.size := by omega
        rw [hZ] at RP
        clear hZ hT2 FR PL DP L2 S2 pl LA LB s lp TS kz ZS
        go_enter Tryd.func14, Tryd.ntmps14
        go_wp2_with fail
        refine (CH.out _).mono ?_
        rintro e w1 ⟨rfl, hb1⟩
        have hs1 : _ ≤ w1.heap.size := hb1.size
        try simp at hs1
        go_wp2_with fail
        refine (W.out _ (T1.out _ belB)).mono ?_
        rintro e w2 ⟨rfl, hb2⟩
        have hs2 : _ ≤ w2.heap.size := hb2.size
        try simp at hs2
        go_wp2_with fail
        refine (CU.out _).mono ?_
        rintro e w3 ⟨rfl, rfl⟩
        go_wp2_with fail
        refine (RP.out _).mono ?_
        rintro e w4 ⟨rfl, hb4⟩
        have hs4 : _ ≤ w4.heap.size := hb4.size
        try simp at hs4
        go_wp2
        first | go_quiet (fail) | go_region_with (fail)
        go_wp2
        go_ret
        exact ⟨by rw [← UT.out]; rfl, belB⟩
  
      · have c0 : ¬ (T.size : Int) < (k : Int) + 1 := by omega
        have TT : T2 = T := by
          rw [← hT2, show k + 1 - T.size = 0 by omega]
          apply ByteArray.ext
          apply Array.toList_inj.1
          rw [LT.out]; simp
        subst TT
        clear hT2 FR PL DP L2 S2 pl LA LB s lp TS kz
        go_enter Tryd.func14, Tryd.ntmps14
        go_wp2_with fail
        refine (CH.out _).mono ?_
        rintro e w1 ⟨rfl, hb1⟩
        have hs1 : _ ≤ w1.heap.size := hb1.size
        try simp at hs1
        go_wp2_with fail
        refine (W.out _ (T1.out _ belB)).mono ?_
        rintro e w2 ⟨rfl, hb2⟩
        have hs2 : _ ≤ w2.heap.size := hb2.size
        try simp at hs2
        go_wp2_with fail
        refine (CU.out _).mono ?_
        rintro e w3 ⟨rfl, rfl⟩
        go_wp2
        first | go_quiet (fail) | go_region_with (fail)
        go_wp2
        go_ret
        exact ⟨by rw [← UT.out]; rfl, belB⟩
  
theorem decimalOf_none_up (d : Int) (w : World) : Calls Tryd.prog 14 #[.func (Fn.func 17) #[.agg #[.int .i64 0, .int .u64 0, .int .i64 0]] #[], .int .i64 d] w fun e w' =>
    e = .returned (.string ⟨#[]⟩) ∧ Below w.heap.size w w' := by
  have C := Lib.hid (fun w => ratio_up 0 0 (by unfold InW; omega) (by unfold In64; omega) w)
  have h1 : hiW 0 = 0 := by decide
  have h2 : loW 0 = 0 := by decide
  have h3 : okD 0 = false := by decide
  rw [h1, h2, h3] at C
  clear h1 h2 h3
  go_enter Tryd.func14, Tryd.ntmps14
  go_wp2_with fail
  refine (C.out _).mono ?_
  rintro e w1 ⟨rfl, hb1⟩
  have hs1 : _ ≤ w1.heap.size := hb1.size
  try simp at hs1
  go_wp2
  go_ret
  exact ⟨rfl, belB⟩
theorem decimalOf_up (va : Value) (x : Int) (hx : InW x) (C : ∀ w, Calls Tryd.prog 17 #[va] w fun e w' => e = .returned (.tuple #[.agg #[.int .i64 (hiW x), .int .u64 (loW x)], .bool true]) ∧ Below w.heap.size w w') (k : Nat) (hk : k ≤ 9) (w : World) (ht : Tab w) : Calls Tryd.prog 14 #[.func (Fn.func 17) #[va] #[], .int .i64 (k : Int)] w fun e w' =>
    e = .returned (.string ⟨(unT x k).toArray⟩) ∧ Below w.heap.size w w' := by
  have CH := Lib.hid C
  have W := Lib.hid (fun w ht => WideText_any x hx w ht)
  have CU := Lib.hid (fun w => CutPrefix_itoa x hx w)
  have l40 : (Lib.decDigits x.natAbs).length ≤ 39 + 1 := dd_len _ 39 (by
    have t : (10 : Nat) ^ (39 + 1) = 10000000000000000000000000000000000000000 := by decide
    unfold InW at hx; omega)
  have lp := dd_pos x.natAbs
  have T1 := Lib.hid (fun w' (hb : Below w.heap.size w w') => tab_below ht hb)
  obtain ⟨T, hT⟩ : ∃ T : ByteArray, (⟨(Lib.decDigits x.natAbs).toArray⟩ : ByteArray) = T := ⟨_, rfl⟩
  have LT := Lib.hid (show T.data.toList = Lib.decDigits x.natAbs by rw [← hT])
  have TS : T.size = (Lib.decDigits x.natAbs).length := by rw [← hT]; rfl
  rw [hT] at CU
  rw [← TS] at l40 lp
  generalize (⟨(Lib.itoa x).toArray⟩ : ByteArray) = I at *
  clear hT C ht hx
  obtain ⟨M, hM⟩ : ∃ M : Int, (k : Int) + 1 - (T.size : Int) = M := ⟨_, rfl⟩
  by_cases s : x < 0
  · have ng : decide (x < 0) = true := decide_eq_true s
    rw [ng] at CU
    by_cases kz : k = 0
    · have c1 : ¬ 0 < k := by omega
      have c0 : ¬ (T.size : Int) < (k : Int) + 1 := by omega
      have UT := Lib.hid (show (⟨#[45]⟩ : ByteArray) ++ T = ⟨(unT x k).toArray⟩ by
        apply ByteArray.ext
        apply Array.toList_inj.1
        subst kz
        unfold unT
        rw [if_pos s]
        simp [LT.out, ByteArray.data_append])
      have n0 : ¬ 9223372036854775807 < 1 + T.size := by omega
      clear kz s lp TS
      go_enter Tryd.func14, Tryd.ntmps14
      go_wp2_with fail
      refine (CH.out _).mono ?_
      rintro e w1 ⟨rfl, hb1⟩
      have hs1 : _ ≤ w1.heap.size := hb1.size
      try simp at hs1
      go_wp2_with fail
      refine (W.out _ (T1.out _ belB)).mono ?_
      rintro e w2 ⟨rfl, hb2⟩
      have hs2 : _ ≤ w2.heap.size := hb2.size
      try simp at hs2
      go_wp2_with fail
      refine (CU.out _).mono ?_
      rintro e w3 ⟨rfl, rfl⟩
      go_wp2
      go_ret
      exact ⟨by rw [← UT.out]; rfl, belB⟩
    · have k1 : 1 ≤ k := by omega
      have c1 : 0 < k := by omega
      have FR := front x.natAbs k1
      have PL := padT_len (k := k) (r := x.natAbs % 10 ^ k) k1 (Nat.mod_lt _ (Nat.pow_pos (by omega)))
      have DP := dd_pos (x.natAbs / 10 ^ k)
      rw [← TS] at FR
      obtain ⟨T2, hT2⟩ : ∃ T2 : ByteArray, (⟨(List.replicate (k + 1 - T.size) 48 ++ Lib.decDigits x.natAbs).toArray⟩ : ByteArray) = T2 := ⟨_, rfl⟩
      have L2 : T2.data.toList = Lib.decDigits (x.natAbs / 10 ^ k) ++ padT k (x.natAbs % 10 ^ k) := by rw [← hT2]; exact FR
      have S2 : T2.size = (Lib.decDigits (x.natAbs / 10 ^ k)).length + k := by
        have e : T2.size = T2.data.toList.length := (Array.length_toList).symm
        rw [e, L2, List.length_append, PL]
      have B2 : T2.size ≤ 60 := by
        have e : T2.size = (k + 1 - T.size) + T.size := by
          have q : T2.size = T2.data.toList.length := (Array.length_toList).symm
          rw [q, ← hT2, TS]
          simp
        omega
      obtain ⟨p, hp⟩ : ∃ p : Nat, (T2.size : Int) - (k : Int) = (p : Int) := ⟨T2.size - k, by omega⟩
      have pl : p = (Lib.decDigits (x.natAbs / 10 ^ k)).length := by omega
      have pk : p + k = T2.size := by omega
      obtain ⟨A, hA⟩ : ∃ A : ByteArray, T2.extract 0 p = A := ⟨_, rfl⟩
      obtain ⟨B, hB⟩ : ∃ B : ByteArray, T2.extract p T2.size = B := ⟨_, rfl⟩
      have LA : A.data.toList = Lib.decDigits (x.natAbs / 10 ^ k) := by
        rw [← hA, ByteArray.data_extract, Array.toList_extract, L2, List.extract_eq_take_drop, List.drop_zero, Nat.sub_zero, pl, List.take_left]
      have LB : B.data.toList = padT k (x.natAbs % 10 ^ k) := by
        rw [← hB, ByteArray.data_extract, Array.toList_extract, L2, List.extract_eq_take_drop, pl, List.drop_left, List.take_of_length_le (by rw [PL]; omega)]
      have SA : A.size = p := by rw [← hA, ByteArray.size_extract]; omega
      have SB : B.size = k := by rw [← hB, ByteArray.size_extract]; omega
      have UT := Lib.hid (show (⟨#[45]⟩ : ByteArray) ++ (A ++ (⟨#[46]⟩ : ByteArray) ++ B) = ⟨(unT x k).toArray⟩ by
        apply ByteArray.ext
        apply Array.toList_inj.1
        unfold unT
        rw [if_pos s, if_neg kz]
        simp [LA, LB, ByteArray.data_append])
      have n2 : ¬ 9223372036854775807 < A.size + 1 := by omega
      have n3 : ¬ 9223372036854775807 < A.size + 1 + B.size := by omega
      have n4 : ¬ 9223372036854775807 < 1 + (A.size + 1 + B.size) := by omega
      have p2 : p ≤ T2.size := by omega
      by_cases m : 0 < M
      · have c0 : (T.size : Int) < (k : Int) + 1 := by omega
        obtain ⟨mn, hmn⟩ : ∃ mn : Nat, M = (mn : Int) := ⟨M.toNat, by omega⟩
        subst hmn
        have RP := Lib.hid (fun w => Tryd.strings_Repeat ⟨#[48]⟩ mn w (by omega) (by show 1 * mn ≤ _; omega))
        obtain ⟨Z, hZ⟩ : ∃ Z : ByteArray, (⟨(Lib.repeatL (⟨#[48]⟩ : ByteArray).data.toList mn).toArray⟩ : ByteArray) = Z := ⟨_, rfl⟩
        have ZT : Z ++ T = T2 := by
          rw [← hZ, ← hT2]
          apply ByteArray.ext
          apply Array.toList_inj.1
          rw [ByteArray.data_append, Array.toList_append, LT.out, show k + 1 - T.size = mn by omega]
          show Lib.repeatL [48] mn ++ _ = _
          rw [rep_zero]
        have ZS : Z.size = mn := by
          rw [← hZ]
          show (Lib.repeatL [48] mn).length = mn
          rw [rep_zero, List.length_replicate]
        have n1 : ¬ 9223372036854775807 < Z.size + T.size := by omega
        rw [hZ] at RP
        clear hZ hT2 FR PL DP L2 S2 pl LA LB s lp TS kz ZS
        go_enter Tryd.func14, Tryd.ntmps14
        go_wp2_with fail
        refine (CH.out _).mono ?_
        rintro e w1 ⟨rfl, hb1⟩
        have hs1 : _ ≤ w1.heap.size := hb1.size
        try simp at hs1
        go_wp2_with fail
        refine (W.out _ (T1.out _ belB)).mono ?_
        rintro e w2 ⟨rfl, hb2⟩
        have hs2 : _ ≤ w2.heap.size := hb2.size
        try simp at hs2
        go_wp2_with fail
        refine (CU.out _).mono ?_
        rintro e w3 ⟨rfl, rfl⟩
        go_wp2_with fail
        refine (RP.out _).mono ?_
        rintro e w4 ⟨rfl, hb4⟩
        have hs4 : _ ≤ w4.heap.size := hb4.size
        try simp at hs4
        go_wp2
        first | go_quiet (fail) | go_region_with (fail)
        go_wp2
        go_ret
        exact ⟨by rw [← UT.out]; rfl, belB⟩
  
      · have c0 : ¬ (T.size : Int) < (k : Int) + 1 := by omega
        have TT : T2 = T := by
          rw [← hT2, show k + 1 - T.size = 0 by omega]
          apply ByteArray.ext
          apply Array.toList_inj.1
          rw [LT.out]; simp
        subst TT
        clear hT2 FR PL DP L2 S2 pl LA LB s lp TS kz
        go_enter Tryd.func14, Tryd.ntmps14
        go_wp2_with fail
        refine (CH.out _).mono ?_
        rintro e w1 ⟨rfl, hb1⟩
        have hs1 : _ ≤ w1.heap.size := hb1.size
        try simp at hs1
        go_wp2_with fail
        refine (W.out _ (T1.out _ belB)).mono ?_
        rintro e w2 ⟨rfl, hb2⟩
        have hs2 : _ ≤ w2.heap.size := hb2.size
        try simp at hs2
        go_wp2_with fail
        refine (CU.out _).mono ?_
        rintro e w3 ⟨rfl, rfl⟩
        go_wp2
        first | go_quiet (fail) | go_region_with (fail)
        go_wp2
        go_ret
        exact ⟨by rw [← UT.out]; rfl, belB⟩
  
  · have ng : decide (x < 0) = false := decide_eq_false s
    rw [ng] at CU
    by_cases kz : k = 0
    · have c1 : ¬ 0 < k := by omega
      have c0 : ¬ (T.size : Int) < (k : Int) + 1 := by omega
      have UT := Lib.hid (show T = ⟨(unT x k).toArray⟩ by
        apply ByteArray.ext
        apply Array.toList_inj.1
        subst kz
        unfold unT
        rw [if_neg s]
        simp [LT.out, ByteArray.data_append])
      clear kz s lp TS
      go_enter Tryd.func14, Tryd.ntmps14
      go_wp2_with fail
      refine (CH.out _).mono ?_
      rintro e w1 ⟨rfl, hb1⟩
      have hs1 : _ ≤ w1.heap.size := hb1.size
      try simp at hs1
      go_wp2_with fail
      refine (W.out _ (T1.out _ belB)).mono ?_
      rintro e w2 ⟨rfl, hb2⟩
      have hs2 : _ ≤ w2.heap.size := hb2.size
      try simp at hs2
      go_wp2_with fail
      refine (CU.out _).mono ?_
      rintro e w3 ⟨rfl, rfl⟩
      go_wp2
      go_ret
      exact ⟨by rw [← UT.out]; rfl, belB⟩
    · have k1 : 1 ≤ k := by omega
      have c1 : 0 < k := by omega
      have FR := front x.natAbs k1
      have PL := padT_len (k := k) (r := x.natAbs % 10 ^ k) k1 (Nat.mod_lt _ (Nat.pow_pos (by omega)))
      have DP := dd_pos (x.natAbs / 10 ^ k)
      rw [← TS] at FR
      obtain ⟨T2, hT2⟩ : ∃ T2 : ByteArray, (⟨(List.replicate (k + 1 - T.size) 48 ++ Lib.decDigits x.natAbs).toArray⟩ : ByteArray) = T2 := ⟨_, rfl⟩
      have L2 : T2.data.toList = Lib.decDigits (x.natAbs / 10 ^ k) ++ padT k (x.natAbs % 10 ^ k) := by rw [← hT2]; exact FR
      have S2 : T2.size = (Lib.decDigits (x.natAbs / 10 ^ k)).length + k := by
        have e : T2.size = T2.data.toList.length := (Array.length_toList).symm
        rw [e, L2, List.length_append, PL]
      have B2 : T2.size ≤ 60 := by
        have e : T2.size = (k + 1 - T.size) + T.size := by
          have q : T2.size = T2.data.toList.length := (Array.length_toList).symm
          rw [q, ← hT2, TS]
          simp
        omega
      obtain ⟨p, hp⟩ : ∃ p : Nat, (T2.size : Int) - (k : Int) = (p : Int) := ⟨T2.size - k, by omega⟩
      have pl : p = (Lib.decDigits (x.natAbs / 10 ^ k)).length := by omega
      have pk : p + k = T2.size := by omega
      obtain ⟨A, hA⟩ : ∃ A : ByteArray, T2.extract 0 p = A := ⟨_, rfl⟩
      obtain ⟨B, hB⟩ : ∃ B : ByteArray, T2.extract p T2.size = B := ⟨_, rfl⟩
      have LA : A.data.toList = Lib.decDigits (x.natAbs / 10 ^ k) := by
        rw [← hA, ByteArray.data_extract, Array.toList_extract, L2, List.extract_eq_take_drop, List.drop_zero, Nat.sub_zero, pl, List.take_left]
      have LB : B.data.toList = padT k (x.natAbs % 10 ^ k) := by
        rw [← hB, ByteArray.data_extract, Array.toList_extract, L2, List.extract_eq_take_drop, pl, List.drop_left, List.take_of_length_le (by rw [PL]; omega)]
      have SA : A.size = p := by rw [← hA, ByteArray.size_extract]; omega
      have SB : B.size = k := by rw [← hB, ByteArray.size_extract]; omega
      have UT := Lib.hid (show (A ++ (⟨#[46]⟩ : ByteArray) ++ B) = ⟨(unT x k).toArray⟩ by
        apply ByteArray.ext
        apply Array.toList_inj.1
        unfold unT
        rw [if_neg s, if_neg kz]
        simp [LA, LB, ByteArray.data_append])
      have n2 : ¬ 9223372036854775807 < A.size + 1 := by omega
      have n3 : ¬ 9223372036854775807 < A.size + 1 + B.size := by omega
      have n4 : ¬ 9223372036854775807 < 1 + (A.size + 1 + B.size) := by omega
      have p2 : p ≤ T2.size := by omega
      by_cases m : 0 < M
      · have c0 : (T.size : Int) < (k : Int) + 1 := by omega
        obtain ⟨mn, hmn⟩ : ∃ mn : Nat, M = (mn : Int) := ⟨M.toNat, by omega⟩
        subst hmn
        have RP := Lib.hid (fun w => Tryd.strings_Repeat ⟨#[48]⟩ mn w (by omega) (by show 1 * mn ≤ _; omega))
        obtain ⟨Z, hZ⟩ : ∃ Z : ByteArray, (⟨(Lib.repeatL (⟨#[48]⟩ : ByteArray).data.toList mn).toArray⟩ : ByteArray) = Z := ⟨_, rfl⟩
        have ZT : Z ++ T = T2 := by
          rw [← hZ, ← hT2]
          apply ByteArray.ext
          apply Array.toList_inj.1
          rw [ByteArray.data_append, Array.toList_append, LT.out, show k + 1 - T.size = mn by omega]
          show Lib.repeatL [48] mn ++ _ = _
          rw [rep_zero]
        have ZS : Z.size = mn := by
          rw [← hZ]
          show (Lib.repeatL [48] mn).length = mn
          rw [rep_zero, List.length_replicate]
        have n1 : ¬ 9223372036854775807 < Z.size + T.size := by omega
        rw [hZ] at RP
        clear hZ hT2 FR PL DP L2 S2 pl LA LB s lp TS kz ZS
        go_enter Tryd.func14, Tryd.ntmps14
        go_wp2_with fail
        refine (CH.out _).mono ?_
        rintro e w1 ⟨rfl, hb1⟩
        have hs1 : _ ≤ w1.heap.size := hb1.size
        try simp at hs1
        go_wp2_with fail
        refine (W.out _ (T1.out _ belB)).mono ?_
        rintro e w2 ⟨rfl, hb2⟩
        have hs2 : _ ≤ w2.heap.size := hb2.size
        try simp at hs2
        go_wp2_with fail
        refine (CU.out _).mono ?_
        rintro e w3 ⟨rfl, rfl⟩
        go_wp2_with fail
        refine (RP.out _).mono ?_
        rintro e w4 ⟨rfl, hb4⟩
        have hs4 : _ ≤ w4.heap.size := hb4.size
        try simp at hs4
        go_wp2
        first | go_quiet (fail) | go_region_with (fail)
        go_wp2
        go_ret
        exact ⟨by rw [← UT.out]; rfl, belB⟩
  
      · have c0 : ¬ (T.size : Int) < (k : Int) + 1 := by omega
        have TT : T2 = T := by
          rw [← hT2, show k + 1 - T.size = 0 by omega]
          apply ByteArray.ext
          apply Array.toList_inj.1
          rw [LT.out]; simp
        subst TT
        clear hT2 FR PL DP L2 S2 pl LA LB s lp TS kz
        go_enter Tryd.func14, Tryd.ntmps14
        go_wp2_with fail
        refine (CH.out _).mono ?_
        rintro e w1 ⟨rfl, hb1⟩
        have hs1 : _ ≤ w1.heap.size := hb1.size
        try simp at hs1
        go_wp2_with fail
        refine (W.out _ (T1.out _ belB)).mono ?_
        rintro e w2 ⟨rfl, hb2⟩
        have hs2 : _ ≤ w2.heap.size := hb2.size
        try simp at hs2
        go_wp2_with fail
        refine (CU.out _).mono ?_
        rintro e w3 ⟨rfl, rfl⟩
        go_wp2
        first | go_quiet (fail) | go_region_with (fail)
        go_wp2
        go_ret
        exact ⟨by rw [← UT.out]; rfl, belB⟩
  
end Go.Proofs.YtohidondlndkhaaDoor
