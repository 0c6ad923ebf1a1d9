/- The program's decimal texts of a fix, rounded down and up. Conditions: numbers are int64; the library's table of powers of ten is laid. -/
import Derived.Test.YtohidondlndkhaaDoorTxN
import Derived.Test.YtohidondlndkhaaDoorFmW
import Derived.Test.YtohidondlndkhaaDoorFixA
import Derived.LoopN
import Derived.Handy
import Derived.OwnWalk
import Derived.Outline
namespace Go.Proofs.YtohidondlndkhaaDoor
open Go.ChangeShapes Go.WideShapes Go.ChangeAt Go.RowKit
set_option linter.unusedVariables false
set_option maxRecDepth 100000
set_option linter.unusedSimpArgs false
set_option maxHeartbeats 1000000

theorem pow_bound {k : Nat} (h : k ≤ 9) : 1 ≤ 10 ^ k ∧ 10 ^ k ≤ 1000000000 := by
  have a : 1 ≤ 10 ^ k := Nat.pow_pos (by omega)
  have b : 10 ^ k ≤ 10 ^ 9 := Nat.pow_le_pow_right (by omega) h
  exact ⟨a, b⟩
theorem pow_step {j k : Nat} (h : j < k) (hk : k ≤ 9) : 10 ^ j * 10 = 10 ^ (j + 1) ∧ 1 ≤ 10 ^ j ∧ 10 ^ j ≤ 100000000 := by
  have a : 1 ≤ 10 ^ j := Nat.pow_pos (by omega)
  have b : 10 ^ j ≤ 10 ^ 8 := Nat.pow_le_pow_right (by omega) (by omega)
  exact ⟨(Nat.pow_succ 10 j).symm, a, b⟩
theorem tenTo_any (k : Nat) (hk : k ≤ 9) (w : World) : Calls Tryd.prog 30 #[.int .i64 (k : Int)] w fun e w' => e = .returned (.int .i64 ((10 ^ k : Nat) : Int)) ∧ w = w' := by
  go_enter Tryd.func30, Tryd.ntmps30
  go_wp2
  go_loopw [3, 5] (fun a b wr => ∃ (j p : Nat), a = .int .i64 (p : Int) ∧ b = .int .i64 (j : Int) ∧ j ≤ k ∧ Hid (p = 10 ^ j) ∧ wr = w) (fun _ b _ => k - (intOf b).toNat)
  case atStart => exact ⟨0, 1, rfl, rfl, by omega, Lib.hid rfl, rfl⟩
  case round =>
    obtain ⟨j, p, rfl, rfl, hj, hp, rfl⟩ := hrel
    by_cases c : j < k
    · have c0 : decide ((j : Int) < (k : Int)) = true := decide_eq_true (by omega)
      obtain ⟨s1, s2, s3⟩ := pow_step c hk
      have NX := Lib.hid (show p * 10 = 10 ^ (j + 1) by rw [hp.out]; exact s1)
      rw [← hp.out] at s2 s3
      have MS := Lib.hid (show k - (j + 1) < k - j by omega)
      clear s1 hp
      go_wp2
      go_roundw
      case rel => exact ⟨j + 1, p * 10, by congr 1, by congr 1, by omega, NX, by trivial⟩
      case measure => simp [intOf]; omega
    · have c0 : decide ((j : Int) < (k : Int)) = false := decide_eq_false (by omega)
      have e : j = k := by omega
      have E := Lib.hid (show p = 10 ^ k by rw [hp.out, e])
      clear e hp
      go_wp2
      go_ret
      exact ⟨by rw [← E.out]; rfl, rfl⟩
theorem l03Power_any (k : Nat) (hk : k ≤ 9) (w : World) : Calls Tryd.prog 23 #[.int .i64 (k : Int)] w fun e w' => e = .returned (.int .i64 ((10 ^ k : Nat) : Int)) ∧ w = w' := by
  go_enter Tryd.func23, Tryd.ntmps23
  go_wp2
  go_loopw [0, 3] (fun b a wr => ∃ (j p m : Nat), a = .int .i64 (p : Int) ∧ b = .int .i64 (m : Int) ∧ m + j = k ∧ Hid (p = 10 ^ j) ∧ wr = w) (fun b _ _ => (intOf b).toNat)
  case atStart => exact ⟨0, 1, k, rfl, rfl, by omega, Lib.hid rfl, rfl⟩
  case round =>
    obtain ⟨j, p, m, rfl, rfl, hj, hp, rfl⟩ := hrel
    by_cases c : 0 < m
    · have c0 : decide (0 < (m : Int)) = true := decide_eq_true (by omega)
      obtain ⟨s1, s2, s3⟩ := pow_step (show j < k by omega) hk
      have NX := Lib.hid (show p * 10 = 10 ^ (j + 1) by rw [hp.out]; exact s1)
      rw [← hp.out] at s2 s3
      clear s1 hp
      go_wp2
      go_roundw
      case rel => exact ⟨j + 1, p * 10, m - 1, by congr 1, by congr 1; omega, by omega, NX, by trivial⟩
      case measure => simp [intOf]; omega
    · have c0 : decide (0 < (m : Int)) = false := decide_eq_false (by omega)
      have e : j = k := by omega
      have E := Lib.hid (show p = 10 ^ k by rw [hp.out, e])
      clear e hp
      go_wp2
      go_ret
      exact ⟨by rw [← E.out]; rfl, rfl⟩
theorem cut_text (l : List UInt8) : (⟨(45 :: l).toArray⟩ : ByteArray).extract 1 (⟨(45 :: l).toArray⟩ : ByteArray).size = ⟨l.toArray⟩ := by
  apply ByteArray.ext
  rw [ByteArray.data_extract]
  apply Array.toList_inj.1
  rw [Array.toList_extract, List.extract_eq_take_drop, List.drop_one]
  simp [ByteArray.size]
theorem iCutPrefix_yes (l : List UInt8) (hl : l.length ≤ 1000) (w : World) : Calls Tryd.prog 41 #[.string ⟨(45 :: l).toArray⟩, .string ⟨#[45]⟩] w fun e w' =>
    e = .returned (.tuple #[.string ⟨l.toArray⟩, .bool true]) ∧ w = w' := by
  have HP := Lib.hid (fun w => Tryd.stringslite_HasPrefix ⟨(45 :: l).toArray⟩ ⟨#[45]⟩ w)
  have hh : Lib.hasPrefix (⟨(45 :: l).toArray⟩ : ByteArray).data.toList (⟨#[45]⟩ : ByteArray).data.toList = true := by simp [Lib.hasPrefix]
  rw [hh] at HP
  have CT := Lib.hid (cut_text l)
  have sz : (⟨(45 :: l).toArray⟩ : ByteArray).size = l.length + 1 := by simp [ByteArray.size]
  have s1 : 1 ≤ (⟨(45 :: l).toArray⟩ : ByteArray).size := by omega
  have s2 : (⟨(45 :: l).toArray⟩ : ByteArray).size ≤ 1001 := by omega
  clear sz
  generalize (⟨(45 :: l).toArray⟩ : ByteArray) = s at *
  clear hh
  go_enter Tryd.func41, Tryd.ntmps41
  go_wp2_with fail
  refine (HP.out _).mono ?_
  rintro e w1 ⟨rfl, rfl⟩
  go_wp2
  go_ret2
  exact ⟨by rw [← CT.out]; rfl, rfl⟩
theorem iCutPrefix_no (s : ByteArray) (h : Lib.hasPrefix s.data.toList [45] = false) (w : World) : Calls Tryd.prog 41 #[.string s, .string ⟨#[45]⟩] w fun e w' =>
    e = .returned (.tuple #[.string s, .bool false]) ∧ w = w' := by
  have HP := Lib.hid (fun w => Tryd.stringslite_HasPrefix s ⟨#[45]⟩ w)
  have hh : Lib.hasPrefix s.data.toList (⟨#[45]⟩ : ByteArray).data.toList = false := h
  rw [hh] at HP
  clear hh h
  go_enter Tryd.func41, Tryd.ntmps41
  go_wp2_with fail
  refine (HP.out _).mono ?_
  rintro e w1 ⟨rfl, rfl⟩
  go_wp2
  go_ret2
  exact ⟨rfl, rfl⟩
theorem CutPrefix_of (s t : ByteArray) (b : Bool) (C : ∀ w, Calls Tryd.prog 41 #[.string s, .string ⟨#[45]⟩] w fun e w' => e = .returned (.tuple #[.string t, .bool b]) ∧ w = w') (w : World) : Calls Tryd.prog 25 #[.string s, .string ⟨#[45]⟩] w fun e w' =>
    e = .returned (.tuple #[.string t, .bool b]) ∧ w = w' := by
  have CH := Lib.hid C
  clear C
  go_enter Tryd.func25, Tryd.ntmps25
  go_wp2_with fail
  refine (CH.out _).mono ?_
  rintro e w1 ⟨rfl, rfl⟩
  go_wp2
  go_ret2
  exact ⟨rfl, rfl⟩
theorem dd_head (u : Nat) : ∃ c r, Lib.decDigits u = c :: r ∧ c.toNat ≠ 45 := by
  induction u using Nat.strongRecOn with
  | _ u ih =>
    by_cases c : u < 10
    · rw [dd_small c]; exact ⟨_, [], rfl, by rw [UInt8.toNat_ofNat']; omega⟩
    · rw [dd_next c]
      obtain ⟨c, r, h, k⟩ := ih (u / 10) (by omega)
      rw [h]; exact ⟨c, r ++ _, rfl, k⟩
/-- The digits behind the sign of a number's text. -/
theorem CutPrefix_itoa (x : Int) (hx : InW x) (w : World) : Calls Tryd.prog 25 #[.string ⟨(Lib.itoa x).toArray⟩, .string ⟨#[45]⟩] w fun e w' =>
    e = .returned (.tuple #[.string ⟨(Lib.decDigits x.natAbs).toArray⟩, .bool (decide (x < 0))]) ∧ w = w' := by
  have l40 : (Lib.decDigits x.natAbs).length ≤ 39 + 1 := dd_len _ 39 (by
    have t : (10 : Nat) ^ (39 + 1) = 10000000000000000000000000000000000000000 := by decide
    unfold InW at hx; omega)
  by_cases s : x < 0
  · obtain ⟨u, rfl⟩ : ∃ u : Nat, x = -(u : Int) := ⟨x.natAbs, by omega⟩
    rw [Lib.itoa_neg u (by omega), decide_eq_true s, show (-(u : Int)).natAbs = u by omega]
    rw [show (-(u : Int)).natAbs = u by omega] at l40
    exact CutPrefix_of _ _ _ (fun w => iCutPrefix_yes _ (by omega) w) w
  · obtain ⟨u, rfl⟩ : ∃ u : Nat, x = (u : Int) := ⟨x.natAbs, by omega⟩
    rw [Lib.itoa_nonneg u, decide_eq_false s, show ((u : Int)).natAbs = u by omega]
    refine CutPrefix_of _ _ _ (fun w => iCutPrefix_no _ ?_ w) w
    show Lib.hasPrefix (Lib.decDigits u) [45] = false
    obtain ⟨c, r, h, hc⟩ := dd_head u
    rw [h]
    have k : ((45 : UInt8) == c) = false := by rw [beq_eq_false_iff_ne]; intro e; rw [← e] at hc; exact hc rfl
    simp [Lib.hasPrefix, List.isPrefixOf, k]
theorem scaled_yes (n : Int) (k : Nat) (hn : InF n) (hk : k ≤ 9) (w : World) : Calls Tryd.prog 15 #[.int .i64 n, .int .i64 (k : Int)] w fun e w' =>
    e = .returned (.agg #[.int .i64 (hiW (n * ((10 ^ k : Nat) : Int))), .int .u64 (loW (n * ((10 ^ k : Nat) : Int))), .int .i64 4294967296]) ∧ Below w.heap.size w w' := by
  have O := okF_yes hn
  obtain ⟨p1, p2⟩ := pow_bound hk
  have T := Lib.hid (fun w => tenTo_any k hk w)
  have M := Lib.hid (fun w => WideMul_any n ((10 ^ k : Nat) : Int) (by unfold InF at hn; unfold In64; omega) (by unfold In64; omega) w)
  generalize ((10 ^ k : Nat) : Int) = P at *
  have c1 : decide ((k : Int) < 0) = false := decide_eq_false (by omega)
  have c2 : decide (9 < (k : Int)) = false := decide_eq_false (by omega)
  clear hn p1 p2
  go_enter Tryd.func15, Tryd.ntmps15
  go_wp2_with fail
  refine (ValidFix_any n _).mono ?_
  rintro e w1 ⟨rfl, rfl⟩
  go_wp2_with fail
  refine (T.out _).mono ?_
  rintro e w2 ⟨rfl, rfl⟩
  go_wp2_with fail
  refine (M.out _).mono ?_
  rintro e w3 ⟨rfl, hb3⟩
  have hs3 : _ ≤ w3.heap.size := hb3.size
  try simp at hs3
  have o_j0 : Own (w3) (w.heap.size) 0 (.int .i64 0) := ownJ; obtain ⟨j0, f_j0⟩ := o_j0; have o_j1 : Own (w3) (w.heap.size) 1 (.int .u64 0) := ownJ; obtain ⟨j1, f_j1⟩ := o_j1; have o_j2 : Own (w3) (w.heap.size) 2 (.int .i64 0) := ownJ; obtain ⟨j2, f_j2⟩ := o_j2
  go_wp2
  exact bodyPost_ret (v := .agg #[.int .i64 (hiW (n * P)), .int .u64 (loW (n * P)), .int .i64 4294967296]) (by simp [results, Tryd.results15, go_sem, j0, j1, j2]) rfl ⟨rfl, belB⟩
theorem scaled_no (n : Int) (d : Int) (h : ¬ (InF n ∧ 0 ≤ d ∧ d ≤ 9)) (w : World) : Calls Tryd.prog 15 #[.int .i64 n, .int .i64 d] w fun e w' =>
    e = .returned (.agg #[.int .i64 0, .int .u64 0, .int .i64 0]) ∧ Below w.heap.size w w' := by
  by_cases a : InF n
  · have O := okF_yes a
    by_cases b : d < 0
    · have c1 : decide (d < 0) = true := decide_eq_true b
      clear h a
      go_enter Tryd.func15, Tryd.ntmps15
      go_wp2_with fail
      refine (ValidFix_any n _).mono ?_
      rintro e w1 ⟨rfl, rfl⟩
      go_wp2
      exact bodyPost_ret (v := .agg #[.int .i64 0, .int .u64 0, .int .i64 0]) (by simp [results, Tryd.results15, go_sem]) rfl ⟨rfl, belB⟩
    · have c1 : decide (d < 0) = false := decide_eq_false b
      have h' : ¬ (0 ≤ d ∧ d ≤ 9) := fun k => h ⟨a, k⟩
      have c2 : decide (9 < d) = true := decide_eq_true (by omega)
      clear h a h'
      go_enter Tryd.func15, Tryd.ntmps15
      go_wp2_with fail
      refine (ValidFix_any n _).mono ?_
      rintro e w1 ⟨rfl, rfl⟩
      go_wp2
      exact bodyPost_ret (v := .agg #[.int .i64 0, .int .u64 0, .int .i64 0]) (by simp [results, Tryd.results15, go_sem]) rfl ⟨rfl, belB⟩
  · have O := okF_no a
    clear h a
    go_enter Tryd.func15, Tryd.ntmps15
    go_wp2_with fail
    refine (ValidFix_any n _).mono ?_
    rintro e w1 ⟨rfl, rfl⟩
    go_wp2
    exact bodyPost_ret (v := .agg #[.int .i64 0, .int .u64 0, .int .i64 0]) (by simp [results, Tryd.results15, go_sem]) rfl ⟨rfl, belB⟩
end Go.Proofs.YtohidondlndkhaaDoor
