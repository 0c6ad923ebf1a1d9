/- A contract of the program's reading of a decimal number. Conditions: the text has at most 2^20 bytes; the library's table of powers of ten and its two errors are laid. -/
import Derived.Test.YtobfdggdpaggeaaDoorDecB
import Derived.Test.YtobfdggdpaggeaaDoorDecR
import Derived.Test.YtobfdggdpaggeaaDoorShP
namespace Go.Proofs.YtobfdggdpaggeaaDoor
open Go.ChangeShapes Go.WideShapes Go.ChangeAt Go.RowKit
set_option linter.unusedVariables false
set_option maxRecDepth 100000
set_option linter.unusedSimpArgs false
set_option maxHeartbeats 1000000

def rdV (o : Option Int) : Int := o.getD 0
def rdB (o : Option Int) : Bool := o.isSome
def Errs (w : World) : Prop := (∃ tp p, w.var? Tryd.prog "strconv.ErrSyntax" = some #[.iface tp p]) ∧ ∃ tp p, w.var? Tryd.prog "strconv.ErrRange" = some #[.iface tp p]
theorem parse_ok (s : ByteArray) (hs : s.size ≤ 1048576) (v : Int) (hp : Lib.parseIntB 64 s.data.toList = .ok v) (w : World) : Calls Tryd.prog 16 #[.string s, .int .i64 10, .int .i64 64] w fun e w' =>
    e = .returned (.tuple #[.int .i64 v, .nilIface]) ∧ Below w.heap.size w w' := by
  refine (Tryd.strconv_ParseInt_10_at64_ok s (by omega) v hp w).mono ?_
  rintro e w' ⟨rfl, rfl | ⟨t, rfl⟩⟩
  · exact ⟨rfl, Below.refl _ _⟩
  · exact ⟨rfl, Lib.bytesWorld_below _ _ _⟩
theorem parse_bad (s : ByteArray) (hs : s.size ≤ 1048576) (hp : ∀ v, Lib.parseIntB 64 s.data.toList ≠ .ok v) (w : World) (he : Errs w) : Calls Tryd.prog 16 #[.string s, .int .i64 10, .int .i64 64] w fun e w' =>
    ∃ (v : Int) (N : Nat), e = .returned (.tuple #[.int .i64 v, .iface 64 (.pointer (some ⟨N, 0, none⟩))]) ∧ Below w.heap.size w w' := by
  obtain ⟨⟨tp, p, hy⟩, ⟨tq, q, hr⟩⟩ := he
  cases h : Lib.parseIntB 64 s.data.toList with
  | ok v => exact absurd h (hp v)
  | _ =>
    first
    | (refine (Any.strconv_ParseInt_10_at64_syntax_var Tryd.laysC174 s (by omega) h tp p w hy).mono ?_
       rintro e w' ⟨N, rfl, _, _, hb⟩
       exact ⟨_, N, rfl, hb⟩)
    | (refine (Any.strconv_ParseInt_10_at64_range_var Tryd.laysC174 s (by omega) h tq q w hr).mono ?_
       rintro e w' ⟨N, rfl, _, _, hb⟩
       exact ⟨_, N, rfl, hb⟩)
theorem ReadDecimal_bad (s : ByteArray) (hs : s.size ≤ 1048576) (hp : ∀ v, Lib.parseIntB 64 s.data.toList ≠ .ok v) (w : World) (ht : Tab w) (hk : ∀ w', Below w.heap.size w w' → Tab w') (he : Errs w) : Calls Tryd.prog 9 #[.string s] w fun e w' =>
    e = .returned (.tuple #[.int .i64 (rdV (rdP s.data.toList)), .bool (rdB (rdP s.data.toList))]) ∧ Below w.heap.size w w' := by
  have P := Lib.hid (fun w he => parse_bad s hs hp w he)
  have R : Hid (rdP s.data.toList = none) := Lib.hid (by
    cases h : rdP s.data.toList with
    | none => rfl
    | some v =>
      obtain ⟨a, b, e⟩ := (rdP_iff _ _).1 h
      exact absurd (by rw [← e]; exact parse_itoa a b) (hp v))
  clear hp
  go_enter Tryd.func9, Tryd.ntmps9
  go_wp2_with fail
  refine (P.out _ he).mono ?_
  rintro e w1 ⟨v, N, rfl, hb1⟩
  go_wp2
  go_ret2
  exact ⟨by rw [R.out]; rfl, hb1⟩
theorem ReadDecimal_low (s : ByteArray) (hs : s.size ≤ 1048576) (v : Int) (hp : Lib.parseIntB 64 s.data.toList = .ok v) (h : v < -999999999999999999) (w : World) (ht : Tab w) (hk : ∀ w', Below w.heap.size w w' → Tab w') (he : Errs w) : Calls Tryd.prog 9 #[.string s] w fun e w' =>
    e = .returned (.tuple #[.int .i64 (rdV (rdP s.data.toList)), .bool (rdB (rdP s.data.toList))]) ∧ Below w.heap.size w w' := by
  have P := Lib.hid (fun w => parse_ok s hs v hp w)
  have R : Hid (rdP s.data.toList = none) := Lib.hid (by
    unfold rdP
    rw [hp]
    exact if_neg (by omega))
  have c1 : decide (v < -999999999999999999) = true := decide_eq_true h
  clear hp h
  go_enter Tryd.func9, Tryd.ntmps9
  go_wp2_with fail
  refine (P.out _).mono ?_
  rintro e w1 ⟨rfl, hb1⟩
  go_wp2
  go_ret2
  exact ⟨by rw [R.out]; rfl, hb1⟩
theorem ReadDecimal_high (s : ByteArray) (hs : s.size ≤ 1048576) (v : Int) (hp : Lib.parseIntB 64 s.data.toList = .ok v) (h : 999999999999999999 < v) (w : World) (ht : Tab w) (hk : ∀ w', Below w.heap.size w w' → Tab w') (he : Errs w) : Calls Tryd.prog 9 #[.string s] w fun e w' =>
    e = .returned (.tuple #[.int .i64 (rdV (rdP s.data.toList)), .bool (rdB (rdP s.data.toList))]) ∧ Below w.heap.size w w' := by
  have P := Lib.hid (fun w => parse_ok s hs v hp w)
  have R : Hid (rdP s.data.toList = none) := Lib.hid (by
    unfold rdP
    rw [hp]
    exact if_neg (by omega))
  have c1 : decide (v < -999999999999999999) = false := decide_eq_false (by omega)
  have c2 : decide (999999999999999999 < v) = true := decide_eq_true h
  clear hp h
  go_enter Tryd.func9, Tryd.ntmps9
  go_wp2_with fail
  refine (P.out _).mono ?_
  rintro e w1 ⟨rfl, hb1⟩
  go_wp2
  go_ret2
  exact ⟨by rw [R.out]; rfl, hb1⟩
theorem ReadDecimal_off (s : ByteArray) (hs : s.size ≤ 1048576) (v : Int) (hp : Lib.parseIntB 64 s.data.toList = .ok v) (h0 : -999999999999999999 ≤ v) (h1 : v ≤ 999999999999999999) (h : Lib.itoa v ≠ s.data.toList) (w : World) (ht : Tab w) (hk : ∀ w', Below w.heap.size w w' → Tab w') (he : Errs w) : Calls Tryd.prog 9 #[.string s] w fun e w' =>
    e = .returned (.tuple #[.int .i64 (rdV (rdP s.data.toList)), .bool (rdB (rdP s.data.toList))]) ∧ Below w.heap.size w w' := by
  have P := Lib.hid (fun w => parse_ok s hs v hp w)
  have D := Lib.hid (fun w ht => Decimal_any v (by omega) (by omega) w ht)
  have R : Hid (rdP s.data.toList = none) := Lib.hid (by
    unfold rdP
    rw [hp]
    exact if_neg (fun k => h k.2.2))
  have c1 : decide (v < -999999999999999999) = false := decide_eq_false (by omega)
  have c2 : decide (999999999999999999 < v) = false := decide_eq_false (by omega)
  have E : ((⟨(Lib.itoa v).toArray⟩ : ByteArray).toList == s.toList) = false := by
    rw [beq_eq_false_iff_ne, Lib.toList_data, Lib.toList_data]
    intro k
    exact h (by simpa using k)
  generalize (⟨(Lib.itoa v).toArray⟩ : ByteArray) = t at *
  clear h
  clear hp h0 h1
  go_enter Tryd.func9, Tryd.ntmps9
  go_wp2_with fail
  refine (P.out _).mono ?_
  rintro e w1 ⟨rfl, hb1⟩
  go_wp2_with fail
  refine (D.out _ (hk _ hb1)).mono ?_
  rintro e w2 ⟨rfl, hb2⟩
  have hb := hb1.trans (hb2.mono hb1.size)
  clear hb1 hb2
  go_wp2
  go_ret2
  exact ⟨by rw [R.out]; rfl, hb⟩
theorem ReadDecimal_yes (s : ByteArray) (hs : s.size ≤ 1048576) (v : Int) (hp : Lib.parseIntB 64 s.data.toList = .ok v) (h0 : -999999999999999999 ≤ v) (h1 : v ≤ 999999999999999999) (h : Lib.itoa v = s.data.toList) (w : World) (ht : Tab w) (hk : ∀ w', Below w.heap.size w w' → Tab w') (he : Errs w) : Calls Tryd.prog 9 #[.string s] w fun e w' =>
    e = .returned (.tuple #[.int .i64 (rdV (rdP s.data.toList)), .bool (rdB (rdP s.data.toList))]) ∧ Below w.heap.size w w' := by
  have P := Lib.hid (fun w => parse_ok s hs v hp w)
  have D := Lib.hid (fun w ht => Decimal_any v (by omega) (by omega) w ht)
  have R : Hid (rdP s.data.toList = some v) := Lib.hid (by
    unfold rdP
    rw [hp]
    exact if_pos ⟨h0, h1, h⟩)
  have c1 : decide (v < -999999999999999999) = false := decide_eq_false (by omega)
  have c2 : decide (999999999999999999 < v) = false := decide_eq_false (by omega)
  have E : (⟨(Lib.itoa v).toArray⟩ : ByteArray) = s := by
    rw [h]
  rw [E] at D
  clear h E
  clear hp h0 h1
  go_enter Tryd.func9, Tryd.ntmps9
  go_wp2_with fail
  refine (P.out _).mono ?_
  rintro e w1 ⟨rfl, hb1⟩
  go_wp2_with fail
  refine (D.out _ (hk _ hb1)).mono ?_
  rintro e w2 ⟨rfl, hb2⟩
  have hb := hb1.trans (hb2.mono hb1.size)
  clear hb1 hb2
  go_wp2
  go_ret2
  exact ⟨by rw [R.out]; rfl, hb⟩
theorem ReadDecimal_any (s : ByteArray) (hs : s.size ≤ 1048576) (w : World) (ht : Tab w) (hk : ∀ w', Below w.heap.size w w' → Tab w') (he : Errs w) : Calls Tryd.prog 9 #[.string s] w fun e w' =>
    e = .returned (.tuple #[.int .i64 (rdV (rdP s.data.toList)), .bool (rdB (rdP s.data.toList))]) ∧ Below w.heap.size w w' := by
  by_cases p : ∃ v, Lib.parseIntB 64 s.data.toList = .ok v
  · obtain ⟨v, hp⟩ := p
    by_cases a : v < -999999999999999999
    · exact ReadDecimal_low s hs v hp a w ht hk he
    · by_cases b : 999999999999999999 < v
      · exact ReadDecimal_high s hs v hp b w ht hk he
      · by_cases e : Lib.itoa v = s.data.toList
        · exact ReadDecimal_yes s hs v hp (by omega) (by omega) e w ht hk he
        · exact ReadDecimal_off s hs v hp (by omega) (by omega) e w ht hk he
  · exact ReadDecimal_bad s hs (fun v h => p ⟨v, h⟩) w ht hk he
end Go.Proofs.YtobfdggdpaggeaaDoor
