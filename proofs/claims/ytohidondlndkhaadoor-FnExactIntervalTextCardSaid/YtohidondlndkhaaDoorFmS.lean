/- The decimal text of a great number, in groups of 19 digits. Conditions: the library's table of powers of ten is laid. -/
import Derived.Test.YtohidondlndkhaaDoorFmU
import Derived.Test.YtohidondlndkhaaDoorWideL
import Derived.Lib.Repeat
import Derived.WalkSmall
namespace Go.Proofs.YtohidondlndkhaaDoor
open Go.ChangeShapes Go.WideShapes Go.ChangeAt Go.RowKit
set_option linter.unusedVariables false
set_option maxRecDepth 100000
set_option linter.unusedSimpArgs false
set_option maxHeartbeats 1000000

theorem dd_small {u : Nat} (h : u < 10) : Lib.decDigits u = [UInt8.ofNat (48 + u)] := by rw [Lib.decDigits]; exact dif_pos h
theorem dd_next {u : Nat} (h : ¬ u < 10) : Lib.decDigits u = Lib.decDigits (u / 10) ++ [UInt8.ofNat (48 + u % 10)] := by
  conv => lhs; rw [Lib.decDigits]
  exact dif_neg h
theorem dd_group (k : Nat) : ∀ q r, 1 ≤ q → r < 10 ^ (k + 1) → Lib.decDigits (q * 10 ^ (k + 1) + r) = Lib.decDigits q ++ (List.replicate (k + 1 - (Lib.decDigits r).length) 48 ++ Lib.decDigits r) := by
  induction k with
  | zero =>
    intro q r hq hr
    have hr' : r < 10 := by simpa using hr
    have e : q * 10 ^ (0 + 1) + r = q * 10 + r := by simp
    rw [e, dd_next (u := q * 10 + r) (by omega), show (q * 10 + r) / 10 = q by omega, show (q * 10 + r) % 10 = r by omega, dd_small hr']
    simp
  | succ k ih =>
    intro q r hq hr
    have p : (10 : Nat) ^ (k + 1 + 1) = 10 ^ (k + 1) * 10 := Nat.pow_succ 10 (k + 1)
    have p0 : 1 ≤ (10 : Nat) ^ (k + 1) := Nat.pow_pos (by omega)
    have e : q * 10 ^ (k + 1 + 1) = q * 10 ^ (k + 1) * 10 := by rw [p, Nat.mul_assoc]
    have c0 : 1 ≤ q * 10 ^ (k + 1) := Nat.mul_pos hq p0
    rw [e, dd_next (u := q * 10 ^ (k + 1) * 10 + r) (by omega), show (q * 10 ^ (k + 1) * 10 + r) / 10 = q * 10 ^ (k + 1) + r / 10 by omega, show (q * 10 ^ (k + 1) * 10 + r) % 10 = r % 10 by omega, ih q (r / 10) hq (by rw [p] at hr; omega)]
    by_cases c : r < 10
    · rw [dd_small c, show r / 10 = 0 by omega, show r % 10 = r by omega, dd_small (show 0 < 10 by omega)]
      simp only [List.length_cons, List.length_nil]
      rw [show k + 1 + 1 - (0 + 1) = (k + 1 - (0 + 1)) + 1 by omega, List.replicate_succ']
      simp
    · rw [dd_next c]
      have l : (Lib.decDigits (r / 10) ++ [UInt8.ofNat (48 + r % 10)]).length = (Lib.decDigits (r / 10)).length + 1 := by simp
      rw [l, show k + 1 + 1 - ((Lib.decDigits (r / 10)).length + 1) = k + 1 - (Lib.decDigits (r / 10)).length by omega]
      simp
theorem rep_zero (c : Nat) : Lib.repeatL [48] c = List.replicate c 48 := by
  have := Lib.repeatL_replicate 48 1 c
  simpa using this
theorem tab_below {w w' : World} (h : Tab w) (hb : Below w.heap.size w w') : Tab w' := by
  have g : Tryd.prog.globalNamed "internal/strconv.uint64pow10" = some 3 := by kernel_rfl
  have lt : 3 < w.heap.size := World.block_lt_of_cell? w ⟨3, 0, none⟩ (Lib.TabIs.cell h g 0 (by rw [Lib.pow10Tab_length]; omega))
  exact var?_below hb g lt h
theorem text_cat (a b : List UInt8) : (⟨a.toArray⟩ : ByteArray) ++ (⟨b.toArray⟩ : ByteArray) = ⟨(a ++ b).toArray⟩ := by
  apply ByteArray.ext
  rw [ByteArray.data_append]
  simp
theorem String_small (m : Int) (m0 : 0 ≤ m) (m1 : m < 18446744073709551616) (w : World) (ht : Tab w) : Calls Tryd.prog 43 #[.agg #[.int .u64 (hiW m), .int .u64 (loW m)]] w fun e w' =>
    e = .returned (.string ⟨(Lib.decDigits m.toNat).toArray⟩) ∧ Below w.heap.size w w' := by
  obtain ⟨u, rfl⟩ : ∃ u : Nat, m = u := ⟨m.toNat, by omega⟩
  have F := Lib.hid (fun w ht => FormatUint_any u (by omega) w ht)
  have h0 : hiW (u : Int) = 0 := by unfold hiW B64; omega
  have h1 : loW (u : Int) = u := by unfold loW B64; omega
  rw [h0, h1, Int.toNat_natCast]
  have T1 := Lib.hid (fun w' (hb : Below w.heap.size w w') => tab_below ht hb)
  clear ht
  generalize (Lib.decDigits u).toArray = t at *
  go_enter Tryd.func43, Tryd.ntmps43
  go_wp2_with fail
  refine (F.out _ (T1.out _ belB)).mono ?_
  rintro e w1 ⟨rfl, hb⟩
  go_wp2
  go_ret
  exact ⟨rfl, belB⟩
theorem group_text {m : Int} (m1 : 18446744073709551616 ≤ m) : Lib.decDigits m.toNat = Lib.decDigits (m / 10000000000000000000).toNat ++ (List.replicate (19 - (Lib.decDigits (m % 10000000000000000000).toNat).length) 48 ++ Lib.decDigits (m % 10000000000000000000).toNat) := by
  have p : (10 : Nat) ^ (18 + 1) = 10000000000000000000 := by decide
  have h := dd_group 18 (m / 10000000000000000000).toNat (m % 10000000000000000000).toNat (by omega) (by rw [p]; omega)
  rw [p] at h
  rw [← h]
  congr 1; omega
theorem dd_len (u : Nat) : ∀ d, u < 10 ^ (d + 1) → (Lib.decDigits u).length ≤ d + 1 := by
  induction u using Nat.strongRecOn with
  | _ u ih =>
    intro d h
    by_cases c : u < 10
    · rw [dd_small c]; simp
    · rw [dd_next c]
      cases d with
      | zero => simp at h; omega
      | succ d =>
        have := ih (u / 10) (by omega) d (by rw [Nat.pow_succ] at h; omega)
        simp; omega
theorem dd_len19 {r : Nat} (h : r < 10000000000000000000) : (Lib.decDigits r).length ≤ 19 := dd_len r 18 (by have t : (10 : Nat) ^ (18 + 1) = 10000000000000000000 := (by decide); omega)
theorem String_great (m : Int) (m1 : 18446744073709551616 ≤ m) (m2 : m < 340282366920938463463374607431768211456) (w : World) (ht : Tab w)
    (IH : ∀ w, Tab w → Calls Tryd.prog 43 #[.agg #[.int .u64 (hiW (m / 10000000000000000000)), .int .u64 (loW (m / 10000000000000000000))]] w fun e w' =>
      e = .returned (.string ⟨(Lib.decDigits (m / 10000000000000000000).toNat).toArray⟩) ∧ Below w.heap.size w w') : Calls Tryd.prog 43 #[.agg #[.int .u64 (hiW m), .int .u64 (loW m)]] w fun e w' =>
    e = .returned (.string ⟨(Lib.decDigits m.toNat).toArray⟩) ∧ Below w.heap.size w w' := by
  have GT := Lib.hid (group_text m1)
  obtain ⟨r, hr⟩ : ∃ r : Nat, m % 10000000000000000000 = r := ⟨(m % 10000000000000000000).toNat, by omega⟩
  have r1 : r < 10000000000000000000 := by omega
  have D := Lib.hid (fun w => divide_any m 10000000000000000000 (by omega) m2 (by unfold InU; omega) (by omega) w)
  have F := Lib.hid (fun w ht => FormatUint_any r (by omega) w ht)
  have l19 := dd_len19 r1
  rw [hr] at D GT
  rw [Int.toNat_natCast] at GT
  obtain ⟨c, hc⟩ : ∃ c : Nat, (Lib.decDigits r).length + c = 19 := ⟨19 - (Lib.decDigits r).length, by omega⟩
  have R := Lib.hid (fun w => Tryd.strings_Repeat ⟨#[48]⟩ c w (by omega) (by show 1 * c ≤ _; omega))
  rw [show 19 - (Lib.decDigits r).length = c by omega] at GT
  obtain ⟨L, hL⟩ : ∃ L : ByteArray, (⟨(Lib.decDigits r).toArray⟩ : ByteArray) = L := ⟨_, rfl⟩
  have LS : L.size + c = 19 := by rw [← hL]; exact hc
  have LT := Lib.hid (show L.data.toList = Lib.decDigits r by rw [← hL])
  rw [hL] at F
  have h0 : (hiW m == 0) = false := by rw [beq_eq_false_iff_ne]; unfold hiW B64; omega
  have T1 := Lib.hid (fun w' (hb : Below w.heap.size w w') => tab_below ht hb)
  have IHH := Lib.hid IH
  have lq : (Lib.decDigits (m / 10000000000000000000).toNat).length ≤ 39 + 1 := dd_len _ 39 (by
    have t : (10 : Nat) ^ (39 + 1) = 10000000000000000000000000000000000000000 := by decide
    omega)
  have lr : (Lib.repeatL [48] c).length ≤ 19 := by rw [rep_zero, List.length_replicate]; omega
  have n1 : ¬ 9223372036854775807 < (Lib.decDigits (m / 10000000000000000000).toNat).length + (Lib.repeatL [48] c).length := by omega
  have n2 : ¬ 9223372036854775807 < (Lib.decDigits (m / 10000000000000000000).toNat).length + (Lib.repeatL [48] c).length + L.size := by omega
  clear ht IH m1 m2 hr r1 l19 hc hL lq lr
  go_enter Tryd.func43, Tryd.ntmps43
  go_wp2_with fail
  refine (D.out _).mono ?_
  rintro e w1 ⟨rfl, hb1⟩
  have hs1 : _ ≤ w1.heap.size := hb1.size
  try simp at hs1
  go_wp2_with fail
  refine (F.out _ (T1.out _ belB)).mono ?_
  rintro e w2 ⟨rfl, hb2⟩
  have hs2 : _ ≤ w2.heap.size := hb2.size
  try simp at hs2
  obtain ⟨hc2, hf2⟩ := old_kept hb2; have hz2 : w1.heap.size < w2.heap.size := Nat.lt_of_lt_of_le (by first | omega | (simp; done) | (simp; omega)) hb2.size
  have k20 := hc2 (w1.heap.size) 0 (by first | assumption | omega | (simp; done) | (simp; omega)); have k21 := hc2 (w1.heap.size) 1 (by first | assumption | omega | (simp; done) | (simp; omega))
  go_wp2_with fail
  refine (IHH.out _ (T1.out _ belB)).mono ?_
  rintro e w3 ⟨rfl, hb3⟩
  have hs3 : _ ≤ w3.heap.size := hb3.size
  try simp at hs3
  go_wp2_with fail
  rw [show (19 : Int) - (L.size : Int) = (c : Int) by omega]
  refine (R.out _).mono ?_
  rintro e w4 ⟨rfl, hb4⟩
  have hs4 : _ ≤ w4.heap.size := hb4.size
  try simp at hs4
  go_wp2
  go_ret
  have E : (⟨(Lib.decDigits (m / 10000000000000000000).toNat).toArray⟩ : ByteArray) ++ (⟨(Lib.repeatL [48] c).toArray⟩ : ByteArray) ++ L = ⟨(Lib.decDigits (m / 10000000000000000000).toNat ++ (List.replicate c 48 ++ Lib.decDigits r)).toArray⟩ := by
    apply ByteArray.ext
    apply Array.toList_inj.1
    simp only [ByteArray.data_append, Array.toList_append, LT.out, rep_zero]
    simp
  exact ⟨by rw [GT.out, ← E]; rfl, belB⟩
theorem String_any (n : Nat) : ∀ m : Int, m.toNat = n → 0 ≤ m → m < 340282366920938463463374607431768211456 → ∀ w, Tab w → Calls Tryd.prog 43 #[.agg #[.int .u64 (hiW m), .int .u64 (loW m)]] w fun e w' =>
    e = .returned (.string ⟨(Lib.decDigits m.toNat).toArray⟩) ∧ Below w.heap.size w w' := by
  induction n using Nat.strongRecOn with
  | _ n ih =>
    intro m hn m0 m1 w ht
    by_cases c : m < 18446744073709551616
    · exact String_small m m0 c w ht
    · exact String_great m (by omega) m1 w ht (fun w ht => ih (m / 10000000000000000000).toNat (by omega) _ rfl (by omega) (by omega) w ht)
end Go.Proofs.YtohidondlndkhaaDoor
