/- The model's decimal texts of a fix, rounded down and up. Conditions: numbers are int64. -/
import Derived.Test.YtohidondlndkhaaDoorTxP
namespace Go.Proofs.YtohidondlndkhaaDoor
open Go.ChangeShapes Go.WideShapes Go.ChangeAt Go.RowKit
set_option linter.unusedVariables false
set_option maxRecDepth 100000
set_option linter.unusedSimpArgs false
set_option maxHeartbeats 1000000

theorem div_nat (N P : Nat) : (N : Int).tdiv (P : Int) = ((N / P : Nat) : Int) := rfl
theorem mod_nat (N P : Nat) : (N : Int).tmod (P : Int) = ((N % P : Nat) : Int) := rfl
def sizeV : Value → Nat | .string s => s.size | _ => 0
theorem dec_any (u : Nat) (h : u ≤ 9223372036854775807) (w : World) : Calls Tryd.prog 40 #[.int .i64 (u : Int)] w fun e w' =>
    e = .returned (.string ⟨(Lib.decDigits u).toArray⟩) ∧ Below w.heap.size w w' := by
  have := l01Dec_any (u : Int) (by omega) (by omega) w
  rw [Lib.itoa_nonneg] at this
  exact this
theorem l03Units_neg (N k : Nat) (h0 : 1 ≤ N) (hN : N ≤ 4611686018427387904) (hk : k ≤ 9) (w : World) : Calls Tryd.prog 24 #[.int .i64 (-(N : Int)), .int .i64 (k : Int)] w fun e w' =>
    e = .returned (.string ⟨(unT (-(N : Int)) k).toArray⟩) ∧ Below w.heap.size w w' := by
  have U : Hid (unT (-(N : Int)) k = [45] ++ (Lib.decDigits (N / 10 ^ k) ++ (if k = 0 then [] else 46 :: padT k (N % 10 ^ k)))) := Lib.hid (by
    unfold unT
    rw [if_pos (by omega), show ((-(N : Int))).natAbs = N by omega])
  obtain ⟨p1, p2⟩ := pow_bound hk
  have PW := Lib.hid (fun w => l03Power_any k hk w)
  have LR := Lib.hid (fun (k1 : 1 ≤ k) => dd_len (N % 10 ^ k) (k - 1) (by rw [show k - 1 + 1 = k by omega]; exact Nat.mod_lt _ (by omega)))
  generalize 10 ^ k = P at *
  obtain ⟨Q, hQ⟩ : ∃ Q : Nat, N / P = Q := ⟨_, rfl⟩
  obtain ⟨r, hr⟩ : ∃ r : Nat, N % P = r := ⟨_, rfl⟩
  have q1 : Q ≤ 4611686018427387904 := by rw [← hQ]; exact Nat.le_trans (Nat.div_le_self _ _) hN
  have r1 : r ≤ 4611686018427387904 := by rw [← hr]; exact Nat.le_trans (Nat.mod_le _ _) hN
  rw [hQ, hr] at U
  rw [hr] at LR
  have tq : (N : Int).tdiv (P : Int) = (Q : Int) := by rw [div_nat, hQ]
  have tr : (N : Int).tmod (P : Int) = (r : Int) := by rw [mod_nat, hr]
  have pz : ((P : Int) == 0) = false := by rw [beq_eq_false_iff_ne]; omega
  have pn : ¬ (P : Int) = 0 := by omega
  have DQ := Lib.hid (fun w => dec_any Q (by omega) w)
  have DR := Lib.hid (fun w => dec_any r (by omega) w)
  obtain ⟨G, hG⟩ : ∃ G : ByteArray, (⟨(Lib.decDigits Q).toArray⟩ : ByteArray) = G := ⟨_, rfl⟩
  have GS : G.size ≤ 20 := by
    rw [← hG]
    show (Lib.decDigits Q).length ≤ 20
    exact dd_len Q 19 (by have t : (10 : Nat) ^ (19 + 1) = 100000000000000000000 := by decide
                          omega)
  rw [hG] at DQ
  obtain ⟨O, hO⟩ : ∃ O : ByteArray, (⟨#[45]⟩ : ByteArray) ++ G = O := ⟨_, rfl⟩
  have OL : Hid (O.data.toList = [45] ++ Lib.decDigits Q) := Lib.hid (by rw [← hO, ← hG, ByteArray.data_append]; simp)
  have OS : O.size ≤ 21 := by rw [← hO, ByteArray.size_append]; show 1 + G.size ≤ 21; omega
  obtain ⟨R, hR⟩ : ∃ R : ByteArray, (⟨(Lib.decDigits r).toArray⟩ : ByteArray) = R := ⟨_, rfl⟩
  rw [hR] at DR
  have RL : Hid (R.data.toList = Lib.decDigits r) := Lib.hid (by rw [← hR])
  have RS : R.size = (Lib.decDigits r).length := by rw [← hR]; rfl
  have n1 : ¬ 9223372036854775807 < 1 + G.size := by omega
  have s0 : (-(N : Int)) < 0 := by omega
  clear hQ hr hG hR
  by_cases kz : k = 0
  · have KZ := Lib.hid kz
    have UT := Lib.hid (show O = ⟨(unT (-(N : Int)) k).toArray⟩ by
      apply ByteArray.ext
      apply Array.toList_inj.1
      rw [U.out, if_pos kz, OL.out]
      simp)
    clear kz
    go_enter Tryd.func24, Tryd.ntmps24
    go_wp2_with fail
    refine (PW.out _).mono ?_
    rintro e w0 ⟨rfl, rfl⟩
    go_wp2_with fail
    refine (DQ.out _).mono ?_
    rintro e w1 ⟨rfl, hb1⟩
    have hs1 : _ ≤ w1.heap.size := hb1.size
    try simp at hs1
    have ki := KZ.out
    go_wp2
    go_ret
    exact ⟨by rw [← UT.out]; rfl, belB⟩
  · have k0 : ((k : Int) == 0) = false := by rw [beq_eq_false_iff_ne]; omega
    have ki : ¬ (k : Int) = 0 := by omega
    have rk : R.size ≤ k := by rw [RS]; have := LR.out (by omega); omega
    have r0 : 1 ≤ R.size := by rw [RS]; exact dd_pos r
    have PD : Hid (∀ S : ByteArray, S.data.toList = List.replicate (k - R.size) 48 ++ Lib.decDigits r → O ++ (⟨#[46]⟩ : ByteArray) ++ S = ⟨(unT (-(N : Int)) k).toArray⟩) := Lib.hid (by
      intro S hS
      apply ByteArray.ext
      apply Array.toList_inj.1
      rw [U.out, if_neg kz, ByteArray.data_append, ByteArray.data_append, Array.toList_append, Array.toList_append, OL.out, hS]
      unfold padT
      rw [← RS]
      simp)
    clear kz RS
    go_enter Tryd.func24, Tryd.ntmps24
    go_wp2_with fail
    refine (PW.out _).mono ?_
    rintro e w0 ⟨rfl, rfl⟩
    go_wp2_with fail
    refine (DQ.out _).mono ?_
    rintro e w1 ⟨rfl, hb1⟩
    have hs1 : _ ≤ w1.heap.size := hb1.size
    try simp at hs1
    go_wp2_with fail
    refine (DR.out _).mono ?_
    rintro e w2 ⟨rfl, hb2⟩
    have hs2 : _ ≤ w2.heap.size := hb2.size
    try simp at hs2
    have hb := hb1.trans (hb2.mono hb1.size)
    clear hb1 hb2 hs1 hs2
    go_wp2
    go_loopw [8] (fun a wr => ∃ (i : Nat) (S : ByteArray), a = .string S ∧ Hid (S.data.toList = List.replicate i 48 ++ Lib.decDigits r) ∧ S.size = i + R.size ∧ i + R.size ≤ k ∧ Below w.heap.size w wr) (fun a _ => k - sizeV a)
    case atStart => exact ⟨0, R, rfl, Lib.hid (by rw [RL.out]; rfl), by omega, by omega, hb⟩
    case round =>
      obtain ⟨i, S, rfl, SL, SS, ik, hbr⟩ := hrel
      by_cases c : S.size < k
      · have c0 : decide ((S.size : Int) < (k : Int)) = true := decide_eq_true (by omega)
        have n2 : ¬ 9223372036854775807 < 1 + S.size := by omega
        obtain ⟨S2, hS2⟩ : ∃ S2 : ByteArray, (⟨#[48]⟩ : ByteArray) ++ S = S2 := ⟨_, rfl⟩
        have L2 := Lib.hid (show S2.data.toList = List.replicate (i + 1) 48 ++ Lib.decDigits r by rw [← hS2, ByteArray.data_append, Array.toList_append, SL.out, List.replicate_succ]; rfl)
        have Z2 : S2.size = (i + 1) + R.size := by rw [← hS2, ByteArray.size_append, SS]; show 1 + _ = _; omega
        clear SL
        go_wp2
        go_roundw
        case rel => exact ⟨i + 1, S2, rfl, L2, Z2, by omega, hbr⟩
        case measure => simp [sizeV]; omega
      · have c0 : decide ((S.size : Int) < (k : Int)) = false := decide_eq_false (by omega)
        have n2 : ¬ 9223372036854775807 < O.size + 1 := by omega
        have n3 : ¬ 9223372036854775807 < O.size + 1 + S.size := by omega
        have UT := Lib.hid (PD.out S (by rw [SL.out, show k - R.size = i by omega]))
        clear SL PD
        go_wp2
        go_ret
        exact ⟨by rw [← UT.out]; rfl, hbr⟩
theorem l03Units_pos (N k : Nat) (hN : N ≤ 4611686018427387904) (hk : k ≤ 9) (w : World) : Calls Tryd.prog 24 #[.int .i64 (N : Int), .int .i64 (k : Int)] w fun e w' =>
    e = .returned (.string ⟨(unT (N : Int) k).toArray⟩) ∧ Below w.heap.size w w' := by
  have U : Hid (unT (N : Int) k = [] ++ (Lib.decDigits (N / 10 ^ k) ++ (if k = 0 then [] else 46 :: padT k (N % 10 ^ k)))) := Lib.hid (by
    unfold unT
    rw [if_neg (by omega), show ((N : Int)).natAbs = N by omega])
  obtain ⟨p1, p2⟩ := pow_bound hk
  have PW := Lib.hid (fun w => l03Power_any k hk w)
  have LR := Lib.hid (fun (k1 : 1 ≤ k) => dd_len (N % 10 ^ k) (k - 1) (by rw [show k - 1 + 1 = k by omega]; exact Nat.mod_lt _ (by omega)))
  generalize 10 ^ k = P at *
  obtain ⟨Q, hQ⟩ : ∃ Q : Nat, N / P = Q := ⟨_, rfl⟩
  obtain ⟨r, hr⟩ : ∃ r : Nat, N % P = r := ⟨_, rfl⟩
  have q1 : Q ≤ 4611686018427387904 := by rw [← hQ]; exact Nat.le_trans (Nat.div_le_self _ _) hN
  have r1 : r ≤ 4611686018427387904 := by rw [← hr]; exact Nat.le_trans (Nat.mod_le _ _) hN
  rw [hQ, hr] at U
  rw [hr] at LR
  have tq : (N : Int).tdiv (P : Int) = (Q : Int) := by rw [div_nat, hQ]
  have tr : (N : Int).tmod (P : Int) = (r : Int) := by rw [mod_nat, hr]
  have pz : ((P : Int) == 0) = false := by rw [beq_eq_false_iff_ne]; omega
  have pn : ¬ (P : Int) = 0 := by omega
  have DQ := Lib.hid (fun w => dec_any Q (by omega) w)
  have DR := Lib.hid (fun w => dec_any r (by omega) w)
  obtain ⟨G, hG⟩ : ∃ G : ByteArray, (⟨(Lib.decDigits Q).toArray⟩ : ByteArray) = G := ⟨_, rfl⟩
  have GS : G.size ≤ 20 := by
    rw [← hG]
    show (Lib.decDigits Q).length ≤ 20
    exact dd_len Q 19 (by have t : (10 : Nat) ^ (19 + 1) = 100000000000000000000 := by decide
                          omega)
  rw [hG] at DQ
  obtain ⟨O, hO⟩ : ∃ O : ByteArray, (⟨#[]⟩ : ByteArray) ++ G = O := ⟨_, rfl⟩
  have OL : Hid (O.data.toList = [] ++ Lib.decDigits Q) := Lib.hid (by rw [← hO, ← hG, ByteArray.data_append]; simp)
  have OS : O.size ≤ 21 := by rw [← hO, ByteArray.size_append]; show 0 + G.size ≤ 21; omega
  obtain ⟨R, hR⟩ : ∃ R : ByteArray, (⟨(Lib.decDigits r).toArray⟩ : ByteArray) = R := ⟨_, rfl⟩
  rw [hR] at DR
  have RL : Hid (R.data.toList = Lib.decDigits r) := Lib.hid (by rw [← hR])
  have RS : R.size = (Lib.decDigits r).length := by rw [← hR]; rfl
  have n1 : ¬ 9223372036854775807 < G.size := by omega
  have s0 : ¬ (N : Int) < 0 := by omega
  clear hQ hr hG hR
  by_cases kz : k = 0
  · have KZ := Lib.hid kz
    have UT := Lib.hid (show O = ⟨(unT (N : Int) k).toArray⟩ by
      apply ByteArray.ext
      apply Array.toList_inj.1
      rw [U.out, if_pos kz, OL.out]
      simp)
    clear kz
    go_enter Tryd.func24, Tryd.ntmps24
    go_wp2_with fail
    refine (PW.out _).mono ?_
    rintro e w0 ⟨rfl, rfl⟩
    go_wp2_with fail
    refine (DQ.out _).mono ?_
    rintro e w1 ⟨rfl, hb1⟩
    have hs1 : _ ≤ w1.heap.size := hb1.size
    try simp at hs1
    have ki := KZ.out
    go_wp2
    go_ret
    exact ⟨by rw [← UT.out]; rfl, belB⟩
  · have k0 : ((k : Int) == 0) = false := by rw [beq_eq_false_iff_ne]; omega
    have ki : ¬ (k : Int) = 0 := by omega
    have rk : R.size ≤ k := by rw [RS]; have := LR.out (by omega); omega
    have r0 : 1 ≤ R.size := by rw [RS]; exact dd_pos r
    have PD : Hid (∀ S : ByteArray, S.data.toList = List.replicate (k - R.size) 48 ++ Lib.decDigits r → O ++ (⟨#[46]⟩ : ByteArray) ++ S = ⟨(unT (N : Int) k).toArray⟩) := Lib.hid (by
      intro S hS
      apply ByteArray.ext
      apply Array.toList_inj.1
      rw [U.out, if_neg kz, ByteArray.data_append, ByteArray.data_append, Array.toList_append, Array.toList_append, OL.out, hS]
      unfold padT
      rw [← RS]
      simp)
    clear kz RS
    go_enter Tryd.func24, Tryd.ntmps24
    go_wp2_with fail
    refine (PW.out _).mono ?_
    rintro e w0 ⟨rfl, rfl⟩
    go_wp2_with fail
    refine (DQ.out _).mono ?_
    rintro e w1 ⟨rfl, hb1⟩
    have hs1 : _ ≤ w1.heap.size := hb1.size
    try simp at hs1
    go_wp2_with fail
    refine (DR.out _).mono ?_
    rintro e w2 ⟨rfl, hb2⟩
    have hs2 : _ ≤ w2.heap.size := hb2.size
    try simp at hs2
    have hb := hb1.trans (hb2.mono hb1.size)
    clear hb1 hb2 hs1 hs2
    go_wp2
    go_loopw [8] (fun a wr => ∃ (i : Nat) (S : ByteArray), a = .string S ∧ Hid (S.data.toList = List.replicate i 48 ++ Lib.decDigits r) ∧ S.size = i + R.size ∧ i + R.size ≤ k ∧ Below w.heap.size w wr) (fun a _ => k - sizeV a)
    case atStart => exact ⟨0, R, rfl, Lib.hid (by rw [RL.out]; rfl), by omega, by omega, hb⟩
    case round =>
      obtain ⟨i, S, rfl, SL, SS, ik, hbr⟩ := hrel
      by_cases c : S.size < k
      · have c0 : decide ((S.size : Int) < (k : Int)) = true := decide_eq_true (by omega)
        have n2 : ¬ 9223372036854775807 < 1 + S.size := by omega
        obtain ⟨S2, hS2⟩ : ∃ S2 : ByteArray, (⟨#[48]⟩ : ByteArray) ++ S = S2 := ⟨_, rfl⟩
        have L2 := Lib.hid (show S2.data.toList = List.replicate (i + 1) 48 ++ Lib.decDigits r by rw [← hS2, ByteArray.data_append, Array.toList_append, SL.out, List.replicate_succ]; rfl)
        have Z2 : S2.size = (i + 1) + R.size := by rw [← hS2, ByteArray.size_append, SS]; show 1 + _ = _; omega
        clear SL
        go_wp2
        go_roundw
        case rel => exact ⟨i + 1, S2, rfl, L2, Z2, by omega, hbr⟩
        case measure => simp [sizeV]; omega
      · have c0 : decide ((S.size : Int) < (k : Int)) = false := decide_eq_false (by omega)
        have n2 : ¬ 9223372036854775807 < O.size + 1 := by omega
        have n3 : ¬ 9223372036854775807 < O.size + 1 + S.size := by omega
        have UT := Lib.hid (PD.out S (by rw [SL.out, show k - R.size = i by omega]))
        clear SL PD
        go_wp2
        go_ret
        exact ⟨by rw [← UT.out]; rfl, hbr⟩
theorem l03Units_any (x : Int) (k : Nat) (h0 : -4611686018427387904 ≤ x) (h1 : x ≤ 4611686018427387904) (hk : k ≤ 9) (w : World) : Calls Tryd.prog 24 #[.int .i64 x, .int .i64 (k : Int)] w fun e w' =>
    e = .returned (.string ⟨(unT x k).toArray⟩) ∧ Below w.heap.size w w' := by
  by_cases s : x < 0
  · obtain ⟨N, rfl⟩ : ∃ N : Nat, x = -(N : Int) := ⟨x.natAbs, by omega⟩
    exact l03Units_neg N k (by omega) (by omega) hk w
  · obtain ⟨N, rfl⟩ : ∃ N : Nat, x = (N : Int) := ⟨x.natAbs, by omega⟩
    exact l03Units_pos N k (by omega) hk w
end Go.Proofs.YtohidondlndkhaaDoor
