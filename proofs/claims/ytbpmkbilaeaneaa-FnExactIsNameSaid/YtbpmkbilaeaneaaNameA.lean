/- The contracts of IsName, program and model alike, and its law: strings of any bytes. No conditions. -/
import Derived.Test.YtbpmkbilaeaneaaBase
import Derived.Laws.RangeAny
import Derived.Outline
namespace Go.Proofs.Ytbpmkbilaeaneaa
open Go.ChangeShapes Go.WideShapes Go.ChangeAt Go.RowKit
set_option linter.unusedVariables false
set_option maxRecDepth 100000
set_option linter.unusedSimpArgs false
set_option maxHeartbeats 1000000

/-- The byte at a place. -/
def bN (s : ByteArray) (j : Nat) : Nat := if h : j < s.size then (s[j]'h).toNat else 0
theorem bN_at (s : ByteArray) (j : Nat) (h : j < s.size) : bN s j = (s[j]'h).toNat := dif_pos h
def smlB (c : Nat) : Bool := decide (97 ≤ c ∧ c ≤ 122)
def digB (c : Nat) : Bool := decide (48 ≤ c ∧ c ≤ 57)
def goodB (s : ByteArray) (j : Nat) : Bool := smlB (bN s j) || (digB (bN s j) && decide (0 < j))
def nameFrom (s : ByteArray) : Nat → Nat → Bool
  | 0, _ => true
  | f + 1, k => goodB s k && nameFrom s f (k + 1)
def isNameB (s : ByteArray) : Bool := decide (0 < s.size ∧ s.size ≤ 10) && nameFrom s s.size 0
theorem from_yes {s : ByteArray} {f k : Nat} {b : Bool} (h : nameFrom s (f + 1) k = b) (g : goodB s k = true) : nameFrom s f (k + 1) = b := by
  rw [← h]; unfold nameFrom; rw [g]; rw [Bool.true_and]; cases f <;> rfl
theorem from_no {s : ByteArray} {f k : Nat} {b : Bool} (h : nameFrom s (f + 1) k = b) (g : goodB s k = false) : b = false := by
  rw [← h]; unfold nameFrom; rw [g]; rfl
theorem good_sml {s : ByteArray} {k : Nat} (h : smlB (bN s k) = true) : goodB s k = true := by unfold goodB; rw [h]; rfl
theorem good_dig {s : ByteArray} {k : Nat} (h : digB (bN s k) = true) (p : 0 < k) : goodB s k = true := by unfold goodB; rw [h, decide_eq_true p]; simp
theorem good_no {s : ByteArray} {k : Nat} (h : smlB (bN s k) = false) (g : digB (bN s k) = false ∨ ¬ 0 < k) : goodB s k = false := by
  unfold goodB; rw [h]
  rcases g with g | g
  · rw [g]; rfl
  · rw [decide_eq_false g]; simp
set_option maxRecDepth 1000000
theorem IsName_any (s : ByteArray) (hs : s.size ≤ 9223372036854775807) (w : World) : Calls Try.prog 20 #[.string s] w fun e w' => e = .returned (.bool (isNameB s)) ∧ Below w.heap.size w w' := by
  by_cases z : s.size = 0
  · have E := Lib.hid (show isNameB s = false by unfold isNameB; rw [z]; rfl)
    have z0 : ((s.size : Int) == 0) = true := by rw [z]; rfl
    clear z
    go_enter Try.func20, Try.ntmps20
    go_wp2
    go_ret
    exact ⟨(by first | (rw [E.out]; done) | (rw [E.out]; rfl) | (simp [E.out]; done)), Below.refl _ _⟩
  · have z0 : ((s.size : Int) == 0) = false := by rw [beq_eq_false_iff_ne]; omega
    by_cases t : 10 < s.size
    · have E := Lib.hid (show isNameB s = false by unfold isNameB; rw [decide_eq_false (by omega)]; rfl)
      have t0 : decide ((10 : Int) < (s.size : Int)) = true := decide_eq_true (by omega)
      clear z
      go_enter Try.func20, Try.ntmps20
      go_wp2
      go_ret
      exact ⟨(by first | (rw [E.out]; done) | (rw [E.out]; rfl) | (simp [E.out]; done)), Below.refl _ _⟩
    · have E := Lib.hid (show isNameB s = nameFrom s s.size 0 by unfold isNameB; rw [decide_eq_true (by omega)]; rfl)
      have t0 : decide ((10 : Int) < (s.size : Int)) = false := decide_eq_false (by omega)
      have t1 := Lib.hid (show s.size ≤ 10 by omega)
      clear z t
      obtain ⟨b, hb⟩ : ∃ b, b = nameFrom s s.size 0 := ⟨_, rfl⟩
      rw [← hb] at E
      have HB := Lib.hid hb.symm
      clear hb
      go_enter Try.func20, Try.ntmps20
      go_wp2
      go_loopw [3, 4] (fun _ _ wr => ∃ k f : Nat, k + f = s.size ∧ wr = w.iter s k ∧ Hid (nameFrom s f k = b)) (fun _ _ wr => s.size - wr.iterPos w.heap.size)
      case atStart => exact ⟨0, s.size, by omega, rfl, HB⟩
      case round =>
        obtain ⟨k, f, hk, rfl, hf⟩ := hrel
        cases f with
        | zero =>
          have e : b = true := hf.out.symm
          subst e
          have hnx : ∀ ty, (Instr.next (.pointer (some ⟨w.heap.size, 0, none⟩)) true ty).run Try.prog (w.iter s k) = _ := fun ty => run_next_end w s k ty (by omega)
          go_wp2
          go_ret
          exact ⟨(by first | (rw [E.out]; done) | (rw [E.out]; rfl) | (simp [E.out]; done)), (Below.refl _ _).alloc (Nat.le_refl _) _⟩
        | succ f =>
          have hp : k < s.size := by omega
          have hk10 : k < 10 := by have := t1.out; omega
          have HKK := Lib.hid hk
          clear hk
          have B := Lib.hid (bN_at s k hp)
          by_cases asc : (s[k]'hp).toNat < 128
          · have hnx : ∀ ty, (Instr.next (.pointer (some ⟨w.heap.size, 0, none⟩)) true ty).run Try.prog (w.iter s k) = _ := fun ty => run_next_ascii w s k ty hp asc
            obtain ⟨c, hc⟩ : ∃ c, c = (s[k]'hp).toNat := ⟨_, rfl⟩
            rw [← hc] at hnx B asc
            clear hc
            by_cases s0 : 97 ≤ c
            · by_cases s1 : c ≤ 122
              · have G := Lib.hid (good_sml (s := s) (k := k) (by rw [B.out]; exact decide_eq_true ⟨s0, s1⟩))
                have t3 : (97 : Int) ≤ (c : Int) := by omega
                have t4 : decide ((c : Int) ≤ 122) = true := decide_eq_true (by omega)
                go_wp2
                go_roundw
                case rel => exact ⟨k + 1, f, by have := HKK.out; omega, rfl, Lib.hid (from_yes hf.out G.out)⟩
                case measure => first | (simp; done) | (simp; omega)
              · have G := good_no (s := s) (k := k) (by rw [B.out]; exact decide_eq_false (by omega)) (.inl (by rw [B.out]; exact decide_eq_false (by omega)))
                obtain rfl : b = false := from_no hf.out G
                have t3 : (97 : Int) ≤ (c : Int) := by omega
                have t4 : decide ((c : Int) ≤ 122) = false := decide_eq_false (by omega)
                have t5 : (48 : Int) ≤ (c : Int) := by omega
                have t6 : decide ((c : Int) ≤ 57) = false := decide_eq_false (by omega)
                clear G
                go_wp2
                go_ret
                exact ⟨(by first | (rw [E.out]; done) | (rw [E.out]; rfl) | (simp [E.out]; done)), (Below.refl _ _).alloc (Nat.le_refl _) _⟩
            · have t3 : ¬ (97 : Int) ≤ (c : Int) := by omega
              have t30 : decide ((97 : Int) ≤ (c : Int)) = false := decide_eq_false t3
              by_cases d0 : 48 ≤ c
              · have t5 : (48 : Int) ≤ (c : Int) := by omega
                by_cases d1 : c ≤ 57
                · have t6 : decide ((c : Int) ≤ 57) = true := decide_eq_true (by omega)
                  by_cases p : 0 < k
                  · have G := Lib.hid (good_dig (s := s) (k := k) (by rw [B.out]; exact decide_eq_true ⟨d0, d1⟩) p)
                    have t7 : decide ((0 : Int) < (k : Int)) = true := decide_eq_true (by omega)
                    go_wp2
                    go_roundw
                    case rel => exact ⟨k + 1, f, by have := HKK.out; omega, rfl, Lib.hid (from_yes hf.out G.out)⟩
                    case measure => first | (simp; done) | (simp; omega)
                  · have G := good_no (s := s) (k := k) (by rw [B.out]; exact decide_eq_false (by omega)) (.inr p)
                    obtain rfl : b = false := from_no hf.out G
                    obtain rfl : k = 0 := by omega
                    clear G p
                    go_wp2
                    go_ret
                    exact ⟨(by first | (rw [E.out]; done) | (rw [E.out]; rfl) | (simp [E.out]; done)), (Below.refl _ _).alloc (Nat.le_refl _) _⟩
                · have G := good_no (s := s) (k := k) (by rw [B.out]; exact decide_eq_false (by omega)) (.inl (by rw [B.out]; exact decide_eq_false (by omega)))
                  obtain rfl : b = false := from_no hf.out G
                  have t6 : decide ((c : Int) ≤ 57) = false := decide_eq_false (by omega)
                  clear G
                  go_wp2
                  go_ret
                  exact ⟨(by first | (rw [E.out]; done) | (rw [E.out]; rfl) | (simp [E.out]; done)), (Below.refl _ _).alloc (Nat.le_refl _) _⟩
              · have G := good_no (s := s) (k := k) (by rw [B.out]; exact decide_eq_false (by omega)) (.inl (by rw [B.out]; exact decide_eq_false (by omega)))
                obtain rfl : b = false := from_no hf.out G
                have t5 : ¬ (48 : Int) ≤ (c : Int) := by omega
                have t50 : decide ((48 : Int) ≤ (c : Int)) = false := decide_eq_false t5
                clear G
                go_wp2
                go_ret
                exact ⟨(by first | (rw [E.out]; done) | (rw [E.out]; rfl) | (simp [E.out]; done)), (Below.refl _ _).alloc (Nat.le_refl _) _⟩
          · have hnx : ∀ ty, (Instr.next (.pointer (some ⟨w.heap.size, 0, none⟩)) true ty).run Try.prog (w.iter s k) = _ := fun ty => run_next_any w s k ty hp
            have hi := (decode_high s k hp (by omega)).1
            obtain ⟨c, hc⟩ : ∃ c, c = (Utf8.decode s k).1 := ⟨_, rfl⟩
            obtain ⟨v, hv⟩ : ∃ v, v = k + (Utf8.decode s k).2 := ⟨_, rfl⟩
            rw [← hc, ← hv] at hnx
            rw [← hc] at hi
            clear hc hv
            have G := good_no (s := s) (k := k) (by rw [B.out]; exact decide_eq_false (by omega)) (.inl (by rw [B.out]; exact decide_eq_false (by omega)))
            obtain rfl : b = false := from_no hf.out G
            have t3 : (97 : Int) ≤ (c : Int) := by omega
            have t4 : decide ((c : Int) ≤ 122) = false := decide_eq_false (by omega)
            have t5 : (48 : Int) ≤ (c : Int) := by omega
            have t6 : decide ((c : Int) ≤ 57) = false := decide_eq_false (by omega)
            clear G asc
            go_wp2
            go_ret
            exact ⟨(by first | (rw [E.out]; done) | (rw [E.out]; rfl) | (simp [E.out]; done)), (Below.refl _ _).alloc (Nat.le_refl _) _⟩
theorem l01Small_any (c : Nat) (w : World) : Calls Try.prog 38 #[.int .u8 (c : Int)] w fun e w' => e = .returned (.bool (smlB c)) ∧ w = w' := by
  by_cases a : 97 ≤ c
  · have a0 : (97 : Int) ≤ (c : Int) := by omega
    by_cases b : c ≤ 122
    · have E := Lib.hid (show smlB c = true from decide_eq_true ⟨a, b⟩)
      have b0 : decide ((c : Int) ≤ 122) = true := decide_eq_true (by omega)
      clear a b
      go_enter Try.func38, Try.ntmps38
      go_wp2
      go_ret
      exact ⟨(by first | (rw [E.out]; done) | (rw [E.out]; rfl) | (simp [E.out]; done)), rfl⟩
    · have E := Lib.hid (show smlB c = false from decide_eq_false (by omega))
      have b0 : decide ((c : Int) ≤ 122) = false := decide_eq_false (by omega)
      clear a b
      go_enter Try.func38, Try.ntmps38
      go_wp2
      go_ret
      exact ⟨(by first | (rw [E.out]; done) | (rw [E.out]; rfl) | (simp [E.out]; done)), rfl⟩
  · have E := Lib.hid (show smlB c = false from decide_eq_false (by omega))
    have a0 : decide ((97 : Int) ≤ (c : Int)) = false := decide_eq_false (by omega)
    clear a
    go_enter Try.func38, Try.ntmps38
    go_wp2
    go_ret
    exact ⟨(by first | (rw [E.out]; done) | (rw [E.out]; rfl) | (simp [E.out]; done)), rfl⟩
theorem l01Digit_any (c : Nat) (w : World) : Calls Try.prog 39 #[.int .u8 (c : Int)] w fun e w' => e = .returned (.bool (digB c)) ∧ w = w' := by
  by_cases a : 48 ≤ c
  · have a0 : (48 : Int) ≤ (c : Int) := by omega
    by_cases b : c ≤ 57
    · have E := Lib.hid (show digB c = true from decide_eq_true ⟨a, b⟩)
      have b0 : decide ((c : Int) ≤ 57) = true := decide_eq_true (by omega)
      clear a b
      go_enter Try.func39, Try.ntmps39
      go_wp2
      go_ret
      exact ⟨(by first | (rw [E.out]; done) | (rw [E.out]; rfl) | (simp [E.out]; done)), rfl⟩
    · have E := Lib.hid (show digB c = false from decide_eq_false (by omega))
      have b0 : decide ((c : Int) ≤ 57) = false := decide_eq_false (by omega)
      clear a b
      go_enter Try.func39, Try.ntmps39
      go_wp2
      go_ret
      exact ⟨(by first | (rw [E.out]; done) | (rw [E.out]; rfl) | (simp [E.out]; done)), rfl⟩
  · have E := Lib.hid (show digB c = false from decide_eq_false (by omega))
    have a0 : decide ((48 : Int) ≤ (c : Int)) = false := decide_eq_false (by omega)
    clear a
    go_enter Try.func39, Try.ntmps39
    go_wp2
    go_ret
    exact ⟨(by first | (rw [E.out]; done) | (rw [E.out]; rfl) | (simp [E.out]; done)), rfl⟩
theorem first_no {s : ByteArray} (z : 0 < s.size) (h : smlB (bN s 0) = false) : isNameB s = false := by
  unfold isNameB
  obtain ⟨f, hf⟩ : ∃ f, s.size = f + 1 := ⟨s.size - 1, by omega⟩
  have g := good_no (k := 0) h (.inr (by omega))
  have e : nameFrom s s.size 0 = false := by rw [hf]; unfold nameFrom; rw [g]; rfl
  rw [e]; simp
theorem good_later {s : ByteArray} {k : Nat} (f : smlB (bN s 0) = true) : goodB s k = (smlB (bN s k) || digB (bN s k)) := by
  unfold goodB
  by_cases z : 0 < k
  · rw [decide_eq_true z, Bool.and_true]
  · obtain rfl : k = 0 := by omega
    rw [f]; rfl
theorem sIsName_any (s : ByteArray) (hs : s.size ≤ 9223372036854775807) (w : World) : Calls Try.prog 19 #[.string s] w fun e w' => e = .returned (.bool (isNameB s)) ∧ w = w' := by
  by_cases z : s.size = 0
  · have E := Lib.hid (show isNameB s = false by unfold isNameB; rw [z]; rfl)
    obtain rfl : s = ByteArray.empty := by
      cases s with
      | mk d => have : d.size = 0 := z; have : d = #[] := Array.eq_empty_of_size_eq_zero this; subst this; rfl
    clear z
    go_enter Try.func19, Try.ntmps19
    go_wp2
    go_ret
    exact ⟨(by first | (rw [E.out]; done) | (rw [E.out]; rfl) | (simp [E.out]; done)), rfl⟩
  · have zp : 0 < s.size := by omega
    have nm : s.toList.isEmpty = false := by
      rw [ByteArray.toList_eq]
      cases h : s.data.toList with
      | nil =>
        have : s.data.toList.length = 0 := by rw [h]; rfl
        have : s.data.size = 0 := by simpa using this
        exact absurd this z
      | cons a b => rfl
    by_cases t : 10 < s.size
    · have E := Lib.hid (show isNameB s = false by unfold isNameB; rw [decide_eq_false (by omega)]; rfl)
      have t0 : decide ((10 : Int) < (s.size : Int)) = true := decide_eq_true (by omega)
      clear z
      go_enter Try.func19, Try.ntmps19
      go_wp2
      go_ret
      exact ⟨(by first | (rw [E.out]; done) | (rw [E.out]; rfl) | (simp [E.out]; done)), rfl⟩
    · have t0 : decide ((10 : Int) < (s.size : Int)) = false := decide_eq_false (by omega)
      have B0 := bN_at s 0 zp
      cases f0 : smlB (s[0]'zp).toNat
      · have E := Lib.hid (first_no zp (by rw [B0]; exact f0))
        clear B0 z t
        go_enter Try.func19, Try.ntmps19
        go_wp2_with fail
        refine (l01Small_any _ _).mono ?_
        rintro e w1 ⟨rfl, rfl⟩
        rw [f0]
        go_wp2
        go_ret
        exact ⟨(by first | (rw [E.out]; done) | (rw [E.out]; rfl) | (simp [E.out]; done)), rfl⟩
      · have E := Lib.hid (show isNameB s = nameFrom s s.size 0 by unfold isNameB; rw [decide_eq_true (by omega)]; rfl)
        have F := Lib.hid (show smlB (bN s 0) = true by rw [B0]; exact f0)
        have t1 := Lib.hid (show s.size ≤ 10 by omega)
        have F0 := Lib.hid f0
        clear B0 z t f0
        obtain ⟨b, hb⟩ : ∃ b, b = nameFrom s s.size 0 := ⟨_, rfl⟩
        rw [← hb] at E
        have HB := Lib.hid hb.symm
        clear hb
        go_enter Try.func19, Try.ntmps19
        go_wp2_with fail
        refine (l01Small_any _ _).mono ?_
        rintro e w1 ⟨rfl, rfl⟩
        rw [F0.out]
        go_wp2
        go_loop [3] (fun i => ∃ k f : Nat, k + f = s.size ∧ i = .int .i64 (k : Int) ∧ Hid (nameFrom s f k = b)) (fun i => s.size - (intOf i).toNat)
        case atStart => exact ⟨0, s.size, by omega, rfl, HB⟩
        case round =>
          obtain ⟨k, f, hk, rfl, hf⟩ := hrel
          cases f with
          | zero =>
            have e : b = true := hf.out.symm
            subst e
            have lt : ¬ (k : Int) < (s.size : Int) := by omega
            obtain rfl : k = s.size := by omega
            go_wp2
            go_ret
            exact ⟨(by first | (rw [E.out]; done) | (rw [E.out]; rfl) | (simp [E.out]; done)), rfl⟩
          | succ f =>
            have hp : k < s.size := by omega
            have HKK := Lib.hid hk
            have hk10 : k < 10 := by have := t1.out; omega
            clear hk
            have GB := good_later (k := k) F.out
            rw [bN_at s k hp] at GB
            cases g0 : smlB (s[k]'hp).toNat
            · cases g1 : digB (s[k]'hp).toNat
              · have G : goodB s k = false := by rw [GB, g0, g1]; rfl
                obtain rfl : b = false := from_no hf.out G
                clear G GB
                have H0 := Lib.hid g0
                have H1 := Lib.hid g1
                clear g0 g1
                go_wp2_with fail
                refine (l01Small_any _ _).mono ?_
                rintro e w2 ⟨rfl, rfl⟩
                rw [H0.out]
                go_wp2_with fail
                refine (l01Digit_any _ _).mono ?_
                rintro e w2 ⟨rfl, rfl⟩
                rw [H1.out]
                go_wp2
                go_ret
                exact ⟨(by first | (rw [E.out]; done) | (rw [E.out]; rfl) | (simp [E.out]; done)), rfl⟩
              · have G := Lib.hid (show goodB s k = true by rw [GB, g0, g1]; rfl)
                clear GB
                have H0 := Lib.hid g0
                have H1 := Lib.hid g1
                clear g0 g1
                go_wp2_with fail
                refine (l01Small_any _ _).mono ?_
                rintro e w2 ⟨rfl, rfl⟩
                rw [H0.out]
                go_wp2_with fail
                refine (l01Digit_any _ _).mono ?_
                rintro e w2 ⟨rfl, rfl⟩
                rw [H1.out]
                go_wp2
                go_round
                case rel => exact ⟨k + 1, f, by have := HKK.out; omega, by go_num, Lib.hid (from_yes hf.out G.out)⟩
                case measure => simp [intOf]; omega
            · have G := Lib.hid (show goodB s k = true by rw [GB, g0]; rfl)
              clear GB
              have H0 := Lib.hid g0
              clear g0
              go_wp2_with fail
              refine (l01Small_any _ _).mono ?_
              rintro e w2 ⟨rfl, rfl⟩
              rw [H0.out]
              go_wp2
              go_round
              case rel => exact ⟨k + 1, f, by have := HKK.out; omega, by go_num, Lib.hid (from_yes hf.out G.out)⟩
              case measure => simp [intOf]; omega
theorem law_IsName (s : ByteArray) (hs : s.size ≤ 9223372036854775807) (w : World) : Calls Try.prog 4 #[.string s] w fun e w' => e = .returned (.bool true) ∧ Below w.heap.size w w' := by
  by_cases z : 1048576 < s.size
  · have z0 : (1048576 : Int) < (s.size : Int) := by omega
    go_enter Try.func4, Try.ntmps4
    go_wp2
    go_ret
    exact ⟨rfl, Below.refl _ _⟩
  · have z0 : ¬ (1048576 : Int) < (s.size : Int) := by omega
    clear z
    go_enter Try.func4, Try.ntmps4
    go_wp2_with fail
    refine (sIsName_any s hs _).mono ?_
    rintro e w1 ⟨rfl, rfl⟩
    go_wp2_with fail
    refine (IsName_any s hs _).mono ?_
    rintro e w2 ⟨rfl, hb2⟩
    have hs2 : _ ≤ w2.heap.size := hb2.size
    try simp at hs2
    go_wp2
    go_ret
    exact ⟨rfl, hb2⟩
end Go.Proofs.Ytbpmkbilaeaneaa
