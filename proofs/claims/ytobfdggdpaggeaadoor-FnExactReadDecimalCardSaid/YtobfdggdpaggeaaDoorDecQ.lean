/- A contract of the model's reading of a decimal number, and the law. Conditions: the library's table of powers of ten and its two errors are laid. -/
import Derived.Test.YtobfdggdpaggeaaDoorDecA
import Derived.Test.YtobfdggdpaggeaaDoorDecP
import Derived.LoopN
import Derived.Handy
import Derived.Outline
namespace Go.Proofs.YtobfdggdpaggeaaDoor
open Go.ChangeShapes Go.WideShapes Go.ChangeAt Go.RowKit
set_option linter.unusedVariables false
set_option maxRecDepth 100000
set_option linter.unusedSimpArgs false
set_option maxHeartbeats 1000000

theorem digit_yes (c : Int) (h0 : 48 ≤ c) (h1 : c ≤ 57) (w : World) : Calls Tryd.prog 22 #[.int .u8 c] w fun e w' => e = .returned (.bool true) ∧ w = w' := by
  have a : decide (48 ≤ c) = true := decide_eq_true h0
  have b : decide (c ≤ 57) = true := decide_eq_true h1
  go_enter Tryd.func22, Tryd.ntmps22
  go_wp2
  go_ret
  exact ⟨rfl, rfl⟩
theorem digit_no (c : Int) (h : c < 48 ∨ 57 < c) (w : World) : Calls Tryd.prog 22 #[.int .u8 c] w fun e w' => e = .returned (.bool false) ∧ w = w' := by
  by_cases h0 : 48 ≤ c
  · have a : decide (48 ≤ c) = true := decide_eq_true h0
    have b : decide (c ≤ 57) = false := decide_eq_false (by omega)
    clear h
    go_enter Tryd.func22, Tryd.ntmps22
    go_wp2
    go_ret
    exact ⟨rfl, rfl⟩
  · have a : decide (48 ≤ c) = false := decide_eq_false h0
    clear h
    go_enter Tryd.func22, Tryd.ntmps22
    go_wp2
    go_ret
    exact ⟨rfl, rfl⟩
theorem dec_bad (l : List UInt8) : ∀ acc (i : Nat) b, l[i]? = some b → Lib.digitVal b = none → Lib.decFrom acc l = none := by
  induction l with
  | nil => intro acc i b h; simp at h
  | cons a t ih =>
    intro acc i b h k
    simp only [Lib.decFrom]
    cases hd : Lib.digitVal a with
    | none => rfl
    | some e =>
      cases i with
      | zero => simp at h; subst h; rw [hd] at k; cases k
      | succ i => simp at h; exact ih _ i b h k
theorem digit_some {b : UInt8} (h0 : 48 ≤ (b.toNat : Int)) (h1 : (b.toNat : Int) ≤ 57) : Lib.digitVal b = some (b.toNat - 48) := by
  unfold Lib.digitVal
  rw [if_pos (by omega)]
theorem digit_none {b : UInt8} (h : (b.toNat : Int) < 48 ∨ 57 < (b.toNat : Int)) : Lib.digitVal b = none := by
  unfold Lib.digitVal
  rw [if_neg (by omega)]
theorem dec_next {l : List UInt8} {i n d : Nat} (hi : i < l.length) (h : Lib.decFrom 0 (l.take i) = some n) (k : Lib.digitVal l[i] = some d) : Lib.decFrom 0 (l.take (i + 1)) = some (n * 10 + d) := by
  rw [List.take_succ_eq_append_getElem hi]
  exact decFrom_snoc _ _ _ _ _ h k
theorem dec_small {l : List UInt8} {i n : Nat} (hi : i ≤ l.length) (h : Lib.decFrom 0 (l.take i) = some n) : n < 10 ^ i := by
  have := dec_lt _ 0 n h
  rw [List.length_take, Nat.min_eq_left hi] at this
  omega
theorem rdM_short {l : List UInt8} (h : (tailOf l).length < 1 ∨ 18 < (tailOf l).length) : rdM l = none := by
  unfold rdM
  rw [if_neg (by omega)]
theorem decNat_of {l : List UInt8} (h : 1 ≤ l.length) : Lib.decNat l = Lib.decFrom 0 l := by
  unfold Lib.decNat
  rw [if_neg (by intro k; rw [List.isEmpty_iff.1 k] at h; simp at h)]
theorem rdM_none {l : List UInt8} (h1 : 1 ≤ (tailOf l).length) (h : Lib.decFrom 0 (tailOf l) = none) : rdM l = none := by
  unfold rdM
  split
  · rw [decNat_of h1, h]
  · rfl
theorem rdM_yes {l : List UInt8} {m : Nat} (h1 : 1 ≤ (tailOf l).length) (h2 : (tailOf l).length ≤ 18) (h : Lib.decFrom 0 (tailOf l) = some m) (e : Lib.itoa (signed l m) = l) : rdM l = some (signed l m) := by
  unfold rdM
  rw [if_pos ⟨h1, h2⟩, decNat_of h1, h]
  exact if_pos e
theorem rdM_no {l : List UInt8} {m : Nat} (h1 : 1 ≤ (tailOf l).length) (h2 : (tailOf l).length ≤ 18) (h : Lib.decFrom 0 (tailOf l) = some m) (e : Lib.itoa (signed l m) ≠ l) : rdM l = none := by
  unfold rdM
  rw [if_pos ⟨h1, h2⟩, decNat_of h1, h]
  exact if_neg e
theorem text_ne {s : ByteArray} (h : 0 < s.size) : (s.toList == ([] : List UInt8)) = false := by
  rw [beq_eq_false_iff_ne, Lib.toList_data]
  intro k
  have : s.data.toList.length = 0 := by rw [k]; rfl
  rw [Array.length_toList] at this
  exact absurd this (by show ¬ s.size = 0; omega)
theorem text_head {s : ByteArray} (h : 0 < s.size) : s.data.toList.head? = some (s[0]'h) := by
  have : s.data.toList[0]? = some (s[0]'h) := by
    rw [Array.getElem?_toList]
    exact Array.getElem?_eq_getElem h
  rw [List.head?_eq_getElem?]; exact this
theorem text_tail {s : ByteArray} : (s.extract 1 s.size).data.toList = s.data.toList.tail := by
  rw [ByteArray.data_extract, Array.toList_extract, List.extract_eq_take_drop, List.drop_one, List.take_of_length_le (by rw [List.length_tail, Array.length_toList]; exact Nat.le_refl _)]
theorem text_at {s : ByteArray} {i : Nat} (h : i < s.size) : s.data.toList[i]? = some (s[i]'h) := by
  rw [Array.getElem?_toList]
  exact Array.getElem?_eq_getElem h
theorem text_eq {a s : List UInt8} {t : ByteArray} (h : a = t.data.toList) : (⟨a.toArray⟩ : ByteArray) = t := by
  rw [h]
theorem text_off {a : List UInt8} {t : ByteArray} (h : a ≠ t.data.toList) : ((⟨a.toArray⟩ : ByteArray).toList == t.toList) = false := by
  rw [beq_eq_false_iff_ne, Lib.toList_data, Lib.toList_data]
  intro k
  exact h (by simpa using k)
theorem l01Number_none (s : ByteArray) (h : s.size = 0) (w : World) : Calls Tryd.prog 15 #[.string s] w fun e w' =>
    e = .returned (.tuple #[.int .i64 (rdV (rdM s.data.toList)), .bool (rdB (rdM s.data.toList))]) ∧ Below w.heap.size w w' := by
  have z0 : (s.toList == ([] : List UInt8)) = true := by
    rw [beq_iff_eq, Lib.toList_data]
    exact List.eq_nil_of_length_eq_zero (by rw [Array.length_toList]; exact h)
  have R : Hid (rdM s.data.toList = none) := Lib.hid (rdM_short (.inl (by
    have : s.data.toList = [] := by rw [← Lib.toList_data]; exact beq_iff_eq.1 z0
    rw [this]; decide)))
  go_enter Tryd.func15, Tryd.ntmps15
  go_wp2
  go_ret2
  exact ⟨by rw [R.out]; rfl, Below.refl _ _⟩
theorem tail_minus {s : ByteArray} (h0 : 0 < s.size) (h1 : (s[0]'h0).toNat = 45) : tailOf s.data.toList = (s.extract 1 s.size).data.toList ∧ (∀ m : Nat, signed s.data.toList m = -m) ∧ (s.extract 1 s.size).data.toList.length = (s.size - 1) := by
  have k :  s.data.toList.head? = some 45 := by
    rw [text_head h0]
    exact congrArg some (UInt8.toNat_inj.1 h1)
  refine ⟨?_, fun m => ?_, ?_⟩
  · unfold tailOf
    rw [if_pos k]; exact text_tail.symm
  · unfold signed
    rw [if_pos k]
  · rw [Array.length_toList]
    show (s.extract 1 s.size).size = _; rw [ByteArray.size_extract]; omega
theorem l01Number_minus_short (s : ByteArray) (hs : s.size ≤ 1048576) (h0 : 0 < s.size) (h1 : (s[0]'h0).toNat = 45) (h2 : s.size < 2) (w : World) : Calls Tryd.prog 15 #[.string s] w fun e w' =>
    e = .returned (.tuple #[.int .i64 (rdV (rdM s.data.toList)), .bool (rdB (rdM s.data.toList))]) ∧ Below w.heap.size w w' := by
  have z0 : (s.toList == ([] : List UInt8)) = false := text_ne h0
  obtain ⟨TT, SG, TN⟩ := tail_minus h0 h1
  have R : Hid (rdM s.data.toList = none) := Lib.hid (rdM_short (by rw [TT, TN]; omega))
  clear TT SG TN
  go_enter Tryd.func15, Tryd.ntmps15
  go_wp2
  go_ret2
  exact ⟨by rw [R.out]; rfl, Below.refl _ _⟩
theorem l01Number_minus_long (s : ByteArray) (hs : s.size ≤ 1048576) (h0 : 0 < s.size) (h1 : (s[0]'h0).toNat = 45) (h2 : 19 < s.size) (w : World) : Calls Tryd.prog 15 #[.string s] w fun e w' =>
    e = .returned (.tuple #[.int .i64 (rdV (rdM s.data.toList)), .bool (rdB (rdM s.data.toList))]) ∧ Below w.heap.size w w' := by
  have z0 : (s.toList == ([] : List UInt8)) = false := text_ne h0
  obtain ⟨TT, SG, TN⟩ := tail_minus h0 h1
  have R : Hid (rdM s.data.toList = none) := Lib.hid (rdM_short (by rw [TT, TN]; omega))
  clear TT SG TN
  go_enter Tryd.func15, Tryd.ntmps15
  go_wp2
  go_ret2
  exact ⟨by rw [R.out]; rfl, Below.refl _ _⟩
theorem l01Number_minus (s : ByteArray) (h0 : 0 < s.size) (h1 : (s[0]'h0).toNat = 45) (h2 : 2 ≤ s.size) (h3 : s.size ≤ 19) (w : World) : Calls Tryd.prog 15 #[.string s] w fun e w' =>
    e = .returned (.tuple #[.int .i64 (rdV (rdM s.data.toList)), .bool (rdB (rdM s.data.toList))]) ∧ Below w.heap.size w w' := by
  have z0 : (s.toList == ([] : List UInt8)) = false := text_ne h0
  obtain ⟨TT, SG, TN⟩ := tail_minus h0 h1
  go_enter Tryd.func15, Tryd.ntmps15
  go_wp2
  go_loopw [5, 6] (fun v k wr => ∃ (n i : Nat), v = .int .i64 (n : Int) ∧ k = .int .i64 (i : Int) ∧ i ≤ (s.size - 1) ∧ Hid (Lib.decFrom 0 ((s.extract 1 s.size).data.toList.take i) = some n) ∧ wr = w) (fun _ k _ => s.size - (intOf k).toNat)
  case atStart => exact ⟨0, 0, rfl, rfl, Nat.zero_le _, Lib.hid (by simp [Lib.decFrom]), rfl⟩
  case round =>
    obtain ⟨n, i, rfl, rfl, hi, hd, rfl⟩ := hrel
    have sm := dec_small (by rw [TN]; exact hi) hd.out
    by_cases c : i < (s.size - 1)
    · have c0 : decide ((i : Int) < (((s.size - 1) : Nat) : Int)) = true := decide_eq_true (by omega)
      have sz : (s.extract 1 s.size).size = (s.size - 1) := by rw [← TN, Array.length_toList]; rfl
      have iz : i < (s.extract 1 s.size).size := by rw [sz]; exact c
      have AT := text_at iz
      have hn : n < 100000000000000000 := by
        have p : 10 ^ i ≤ 10 ^ 17 := Nat.pow_le_pow_right (by omega) (by omega)
        have q : (10 : Nat) ^ 17 = 100000000000000000 := by decide
        omega
      clear sm
      obtain ⟨b, hb⟩ : ∃ b : UInt8, (s.extract 1 s.size)[i]'iz = b := ⟨_, rfl⟩
      rw [hb] at AT
      by_cases g : 48 ≤ (b.toNat : Int) ∧ (b.toNat : Int) ≤ 57
      · obtain ⟨g0, g1⟩ := g
        have il : i < (s.extract 1 s.size).data.toList.length := by rw [TN]; exact c
        have NX := Lib.hid (dec_next il hd.out (by rw [List.getElem?_eq_getElem il] at AT; rw [Option.some.inj AT]; exact digit_some g0 g1))
        have DY := Lib.hid (fun w => digit_yes (b.toNat : Int) g0 g1 w)
        clear AT TT SG TN hd il
        go_wp2_with fail
        refine (DY.out _).mono ?_
        rintro e w1 ⟨rfl, rfl⟩
        have MS := Lib.hid (show s.size - (i + 1) < s.size - i by omega)
        go_wp2
        go_roundw
        case rel => exact ⟨n * 10 + (b.toNat - 48), i + 1, by congr 1; omega, by congr 1, by omega, NX, trivial⟩
        case measure => simp [intOf]; omega
      · have R : Hid (rdM s.data.toList = none) := Lib.hid (rdM_none (by rw [TT, TN]; omega) (by rw [TT]; exact dec_bad _ 0 i b AT (digit_none (by omega))))
        have DY := Lib.hid (fun w => digit_no (b.toNat : Int) (by omega) w)
        clear AT TT SG TN hd g
        go_wp2_with fail
        refine (DY.out _).mono ?_
        rintro e w1 ⟨rfl, rfl⟩
        go_wp2
        go_ret2
        exact ⟨by rw [R.out]; rfl, Below.refl _ _⟩
    · have c0 : decide ((i : Int) < (((s.size - 1) : Nat) : Int)) = false := decide_eq_false (by omega)
      have ie : i = (s.size - 1) := by omega
      have hn : n < 1000000000000000000 := by
        have p : 10 ^ i ≤ 10 ^ 18 := Nat.pow_le_pow_right (by omega) (by omega)
        have q : (10 : Nat) ^ 18 = 1000000000000000000 := by decide
        omega
      clear sm
      have DN := hd.out
      rw [List.take_of_length_le (by rw [TN]; omega)] at DN
      clear ie
      by_cases e : Lib.itoa (-(n : Int)) = s.data.toList
      · have E := text_eq (s := []) e
        have R : Hid (rdM s.data.toList = some (-(n : Int))) := Lib.hid (by
          have := rdM_yes (l := s.data.toList) (m := n) (by rw [TT, TN]; omega) (by rw [TT, TN]; omega) (by rw [TT]; exact DN) (by rw [SG]; exact e)
          rw [SG] at this; exact this)
        have D := Lib.hid (fun w => l01Dec_any (-(n : Int)) (by omega) (by omega) w)
        rw [E] at D
        clear E
        clear e TT SG TN DN hd
        go_wp2_with fail
        refine (D.out _).mono ?_
        rintro e w1 ⟨rfl, hb⟩
        go_wp2
        go_ret2
        exact ⟨by rw [R.out]; rfl, hb⟩
      · have E := text_off e
        have R : Hid (rdM s.data.toList = none) := Lib.hid (by
          have := rdM_no (l := s.data.toList) (m := n) (by rw [TT, TN]; omega) (by rw [TT, TN]; omega) (by rw [TT]; exact DN) (by rw [SG]; exact e)
          exact this)
        have D := Lib.hid (fun w => l01Dec_any (-(n : Int)) (by omega) (by omega) w)
        generalize (⟨(Lib.itoa (-(n : Int))).toArray⟩ : ByteArray) = t at *
        clear e TT SG TN DN hd
        go_wp2_with fail
        refine (D.out _).mono ?_
        rintro e w1 ⟨rfl, hb⟩
        go_wp2
        go_ret2
        exact ⟨by rw [R.out]; rfl, hb⟩
theorem tail_plain {s : ByteArray} (h0 : 0 < s.size) (h1 : (s[0]'h0).toNat ≠ 45) : tailOf s.data.toList = s.data.toList ∧ (∀ m : Nat, signed s.data.toList m = m) ∧ s.data.toList.length = s.size := by
  have k : ¬ s.data.toList.head? = some 45 := by
    rw [text_head h0]
    intro q; exact h1 (by rw [Option.some.inj q]; rfl)
  refine ⟨?_, fun m => ?_, ?_⟩
  · unfold tailOf
    rw [if_neg k]
  · unfold signed
    rw [if_neg k]
  · rw [Array.length_toList]
    rfl
theorem l01Number_plain_long (s : ByteArray) (hs : s.size ≤ 1048576) (h0 : 0 < s.size) (h1 : (s[0]'h0).toNat ≠ 45) (h2 : 18 < s.size) (w : World) : Calls Tryd.prog 15 #[.string s] w fun e w' =>
    e = .returned (.tuple #[.int .i64 (rdV (rdM s.data.toList)), .bool (rdB (rdM s.data.toList))]) ∧ Below w.heap.size w w' := by
  have z0 : (s.toList == ([] : List UInt8)) = false := text_ne h0
  obtain ⟨TT, SG, TN⟩ := tail_plain h0 h1
  have R : Hid (rdM s.data.toList = none) := Lib.hid (rdM_short (by rw [TT, TN]; omega))
  clear TT SG TN
  go_enter Tryd.func15, Tryd.ntmps15
  go_wp2
  go_ret2
  exact ⟨by rw [R.out]; rfl, Below.refl _ _⟩
theorem l01Number_plain (s : ByteArray) (h0 : 0 < s.size) (h1 : (s[0]'h0).toNat ≠ 45) (h2 : 1 ≤ s.size) (h3 : s.size ≤ 18) (w : World) : Calls Tryd.prog 15 #[.string s] w fun e w' =>
    e = .returned (.tuple #[.int .i64 (rdV (rdM s.data.toList)), .bool (rdB (rdM s.data.toList))]) ∧ Below w.heap.size w w' := by
  have z0 : (s.toList == ([] : List UInt8)) = false := text_ne h0
  obtain ⟨TT, SG, TN⟩ := tail_plain h0 h1
  go_enter Tryd.func15, Tryd.ntmps15
  go_wp2
  go_loopw [5, 6] (fun v k wr => ∃ (n i : Nat), v = .int .i64 (n : Int) ∧ k = .int .i64 (i : Int) ∧ i ≤ s.size ∧ Hid (Lib.decFrom 0 (s.data.toList.take i) = some n) ∧ wr = w) (fun _ k _ => s.size - (intOf k).toNat)
  case atStart => exact ⟨0, 0, rfl, rfl, Nat.zero_le _, Lib.hid (by simp [Lib.decFrom]), rfl⟩
  case round =>
    obtain ⟨n, i, rfl, rfl, hi, hd, rfl⟩ := hrel
    have sm := dec_small (by rw [TN]; exact hi) hd.out
    by_cases c : i < s.size
    · have c0 : decide ((i : Int) < ((s.size : Nat) : Int)) = true := decide_eq_true (by omega)
      have sz : s.size = s.size := rfl
      have iz : i < s.size := by rw [sz]; exact c
      have AT := text_at iz
      have hn : n < 100000000000000000 := by
        have p : 10 ^ i ≤ 10 ^ 17 := Nat.pow_le_pow_right (by omega) (by omega)
        have q : (10 : Nat) ^ 17 = 100000000000000000 := by decide
        omega
      clear sm
      obtain ⟨b, hb⟩ : ∃ b : UInt8, s[i]'iz = b := ⟨_, rfl⟩
      rw [hb] at AT
      by_cases g : 48 ≤ (b.toNat : Int) ∧ (b.toNat : Int) ≤ 57
      · obtain ⟨g0, g1⟩ := g
        have il : i < s.data.toList.length := by rw [TN]; exact c
        have NX := Lib.hid (dec_next il hd.out (by rw [List.getElem?_eq_getElem il] at AT; rw [Option.some.inj AT]; exact digit_some g0 g1))
        have DY := Lib.hid (fun w => digit_yes (b.toNat : Int) g0 g1 w)
        clear AT TT SG TN hd il
        go_wp2_with fail
        refine (DY.out _).mono ?_
        rintro e w1 ⟨rfl, rfl⟩
        have MS := Lib.hid (show s.size - (i + 1) < s.size - i by omega)
        go_wp2
        go_roundw
        case rel => exact ⟨n * 10 + (b.toNat - 48), i + 1, by congr 1; omega, by congr 1, by omega, NX, trivial⟩
        case measure => simp [intOf]; omega
      · have R : Hid (rdM s.data.toList = none) := Lib.hid (rdM_none (by rw [TT, TN]; omega) (by rw [TT]; exact dec_bad _ 0 i b AT (digit_none (by omega))))
        have DY := Lib.hid (fun w => digit_no (b.toNat : Int) (by omega) w)
        clear AT TT SG TN hd g
        go_wp2_with fail
        refine (DY.out _).mono ?_
        rintro e w1 ⟨rfl, rfl⟩
        go_wp2
        go_ret2
        exact ⟨by rw [R.out]; rfl, Below.refl _ _⟩
    · have c0 : decide ((i : Int) < ((s.size : Nat) : Int)) = false := decide_eq_false (by omega)
      have ie : i = s.size := by omega
      have hn : n < 1000000000000000000 := by
        have p : 10 ^ i ≤ 10 ^ 18 := Nat.pow_le_pow_right (by omega) (by omega)
        have q : (10 : Nat) ^ 18 = 1000000000000000000 := by decide
        omega
      clear sm
      have DN := hd.out
      rw [List.take_of_length_le (by rw [TN]; omega)] at DN
      clear ie
      by_cases e : Lib.itoa ((n : Int)) = s.data.toList
      · have E := text_eq (s := []) e
        have R : Hid (rdM s.data.toList = some ((n : Int))) := Lib.hid (by
          have := rdM_yes (l := s.data.toList) (m := n) (by rw [TT, TN]; omega) (by rw [TT, TN]; omega) (by rw [TT]; exact DN) (by rw [SG]; exact e)
          rw [SG] at this; exact this)
        have D := Lib.hid (fun w => l01Dec_any ((n : Int)) (by omega) (by omega) w)
        rw [E] at D
        clear E
        clear e TT SG TN DN hd
        go_wp2_with fail
        refine (D.out _).mono ?_
        rintro e w1 ⟨rfl, hb⟩
        go_wp2
        go_ret2
        exact ⟨by rw [R.out]; rfl, hb⟩
      · have E := text_off e
        have R : Hid (rdM s.data.toList = none) := Lib.hid (by
          have := rdM_no (l := s.data.toList) (m := n) (by rw [TT, TN]; omega) (by rw [TT, TN]; omega) (by rw [TT]; exact DN) (by rw [SG]; exact e)
          exact this)
        have D := Lib.hid (fun w => l01Dec_any ((n : Int)) (by omega) (by omega) w)
        generalize (⟨(Lib.itoa ((n : Int))).toArray⟩ : ByteArray) = t at *
        clear e TT SG TN DN hd
        go_wp2_with fail
        refine (D.out _).mono ?_
        rintro e w1 ⟨rfl, hb⟩
        go_wp2
        go_ret2
        exact ⟨by rw [R.out]; rfl, hb⟩
theorem l01Number_any (s : ByteArray) (hs : s.size ≤ 1048576) (w : World) : Calls Tryd.prog 15 #[.string s] w fun e w' =>
    e = .returned (.tuple #[.int .i64 (rdV (rdM s.data.toList)), .bool (rdB (rdM s.data.toList))]) ∧ Below w.heap.size w w' := by
  by_cases z : s.size = 0
  · exact l01Number_none s z w
  · have h0 : 0 < s.size := by omega
    by_cases h1 : (s[0]'h0).toNat = 45
    · by_cases a : s.size < 2
      · exact l01Number_minus_short s hs h0 h1 a w
      · by_cases b : 19 < s.size
        · exact l01Number_minus_long s hs h0 h1 b w
        · exact l01Number_minus s h0 h1 (by omega) (by omega) w
    · by_cases b : 18 < s.size
      · exact l01Number_plain_long s hs h0 h1 b w
      · exact l01Number_plain s h0 h1 (by omega) (by omega) w
theorem sReadDecimal_any (s : ByteArray) (hs : s.size ≤ 1048576) (w : World) : Calls Tryd.prog 8 #[.string s] w fun e w' =>
    e = .returned (.tuple #[.int .i64 (rdV (rdM s.data.toList)), .bool (rdB (rdM s.data.toList))]) ∧ Below w.heap.size w w' := by
  have D := Lib.hid (fun w => l01Number_any s hs w)
  generalize rdV (rdM s.data.toList) = v at *
  generalize rdB (rdM s.data.toList) = b at *
  go_enter Tryd.func8, Tryd.ntmps8
  go_wp2_with fail
  refine (D.out _).mono ?_
  rintro e w1 ⟨rfl, hb⟩
  go_wp2
  go_ret2
  exact ⟨rfl, hb⟩
theorem law_ReadDecimal (s : ByteArray) (hm : s.size ≤ maxLen) (w : World) (ht : Tab w) (hk : ∀ w', Below w.heap.size w w' → Tab w') (he : Errs w) (hke : ∀ w', Below w.heap.size w w' → Errs w') : Calls Tryd.prog 4 #[.string s] w fun e w' =>
    e = .returned (.bool true) ∧ Below w.heap.size w w' := by
  have hm' : s.size ≤ 9223372036854775807 := by unfold maxLen at hm; omega
  clear hm
  by_cases c : 1048576 < s.size
  · have c0 : decide (1048576 < (s.size : Int)) = true := decide_eq_true (by omega)
    clear ht hk he hke
    go_enter Tryd.func4, Tryd.ntmps4
    go_wp2
    go_ret
    exact ⟨rfl, Below.refl _ _⟩
  · have c0 : decide (1048576 < (s.size : Int)) = false := decide_eq_false (by omega)
    have D := Lib.hid (fun w => sReadDecimal_any s (by omega) w)
    have E := Lib.hid (fun w ht hk he => ReadDecimal_any s (by omega) w ht hk he)
    rw [rd_same] at E
    generalize rdV (rdM s.data.toList) = v at *
    generalize rdB (rdM s.data.toList) = b at *
    go_enter Tryd.func4, Tryd.ntmps4
    go_wp2_with fail
    refine (D.out _).mono ?_
    rintro e w1 ⟨rfl, hb1⟩
    go_wp2_with fail
    refine (E.out _ (hk _ hb1) (fun w' h => hk _ (hb1.trans (h.mono hb1.size))) (hke _ hb1)).mono ?_
    rintro e w2 ⟨rfl, hb2⟩
    have hb := hb1.trans (hb2.mono hb1.size)
    clear hb1 hb2
    go_wp2
    go_ret
    exact ⟨rfl, hb⟩
end Go.Proofs.YtobfdggdpaggeaaDoor
