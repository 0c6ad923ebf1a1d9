/- The laws of the decimal texts of a fix, rounded down and up. Conditions: numbers are int64; the library's table of powers of ten is laid. -/
import Derived.Test.YtohidondlndkhaaDoorTxM
import Derived.Test.YtohidondlndkhaaDoorWideZe
import Derived.Test.YtohidondlndkhaaDoorTxQ
namespace Go.Proofs.YtohidondlndkhaaDoor
open Go.ChangeShapes Go.WideShapes Go.ChangeAt Go.RowKit
set_option linter.unusedVariables false
set_option maxRecDepth 100000
set_option linter.unusedSimpArgs false
set_option maxHeartbeats 1000000

theorem unit_bound {n : Int} {k : Nat} (hn : InF n) (hk : k ≤ 9) : -1152921504606846976000000000 ≤ n * ((10 ^ k : Nat) : Int) ∧ n * ((10 ^ k : Nat) : Int) ≤ 1152921504606846976000000000 := by
  have p := (pow_bound hk).2
  have m : n.natAbs * 10 ^ k ≤ 1152921504606846976 * 1000000000 := Nat.mul_le_mul (by unfold InF at hn; omega) p
  have e : (n * ((10 ^ k : Nat) : Int)).natAbs = n.natAbs * 10 ^ k := by rw [Int.natAbs_mul, Int.natAbs_natCast]
  generalize n * ((10 ^ k : Nat) : Int) = V at *
  omega
theorem mf_of {a p V : Int} (h : a * p = V) (h0 : -1152921504606846976000000000 ≤ V) (h1 : V ≤ 1152921504606846976000000000) : mfI a p 32 = V / 4294967296 := by
  unfold mfI
  rw [if_pos (by omega), h]
  have e : shrW V 32 = V / 4294967296 := by unfold shrW; rfl
  rw [e, intW_self (by unfold In64; omega)]
def txX (up : Bool) (V : Int) : Int := if up then cei V 4294967296 else V / 4294967296
theorem l03Text_down (n : Int) (k : Nat) (hn : InF n) (hk : k ≤ 9) (w : World) : Calls Tryd.prog 13 #[.int .i64 n, .int .i64 (k : Int), .bool false] w fun e w' =>
    e = .returned (.string ⟨(unT (txX false (n * ((10 ^ k : Nat) : Int))) k).toArray⟩) ∧ Below w.heap.size w w' := by
  have O := okF_yes hn
  obtain ⟨b0, b1⟩ := unit_bound hn hk
  obtain ⟨p1, p2⟩ := pow_bound hk
  have PW := Lib.hid (fun w => l03Power_any k hk w)
  have MF := Lib.hid (fun w => sMulFloor_any (n) ((10 ^ k : Nat) : Int) 32 (by unfold InF at hn; unfold In64; omega) (by unfold In64; omega) (by unfold In64; omega) w)
  have ME := mf_of (a := n) (p := ((10 ^ k : Nat) : Int)) (V := n * ((10 ^ k : Nat) : Int)) rfl (by omega) (by omega)
  rw [ME] at MF
  obtain ⟨x, hx⟩ : ∃ x : Int, x = n * ((10 ^ k : Nat) : Int) / 4294967296 := ⟨_, rfl⟩
  rw [← hx] at MF
  have X : Hid (txX false (n * ((10 ^ k : Nat) : Int)) = x) := Lib.hid (by unfold txX; rw [hx]; rfl)
  have x0 : -4611686018427387904 ≤ x ∧ x ≤ 4611686018427387904 := by omega
  obtain ⟨x1, x2⟩ := x0
  have LU := Lib.hid (fun w => l03Units_any (x) k (by omega) (by omega) hk w)
  have IN := Lib.hid (fun w => l00In_yes (k : Int) 0 9 (by omega) (by omega) w)
  have ni : -1152921504606846976 ≤ n ∧ n ≤ 1152921504606846976 := hn
  obtain ⟨n0, n1⟩ := ni
  rw [X.out]
  clear ME hx X b0 b1 hn p1 p2
  generalize ((10 ^ k : Nat) : Int) = P at *
  go_enter Tryd.func13, Tryd.ntmps13
  go_wp2_with fail
  refine (l03Ok_any n _).mono ?_
  rintro e w0 ⟨rfl, rfl⟩
  go_wp2_with fail
  refine (IN.out _).mono ?_
  rintro e w0 ⟨rfl, rfl⟩
  go_wp2_with fail
  refine (PW.out _).mono ?_
  rintro e w0 ⟨rfl, rfl⟩
  go_wp2_with fail
  refine (MF.out _).mono ?_
  rintro e w1 ⟨rfl, hb1⟩
  have hs1 : _ ≤ w1.heap.size := hb1.size
  try simp at hs1
  go_wp2_with fail
  refine (LU.out _).mono ?_
  rintro e w2 ⟨rfl, hb2⟩
  have hs2 : _ ≤ w2.heap.size := hb2.size
  try simp at hs2
  go_wp2
  go_ret
  exact ⟨rfl, belB⟩
theorem l03Text_up (n : Int) (k : Nat) (hn : InF n) (hk : k ≤ 9) (w : World) : Calls Tryd.prog 13 #[.int .i64 n, .int .i64 (k : Int), .bool true] w fun e w' =>
    e = .returned (.string ⟨(unT (txX true (n * ((10 ^ k : Nat) : Int))) k).toArray⟩) ∧ Below w.heap.size w w' := by
  have O := okF_yes hn
  obtain ⟨b0, b1⟩ := unit_bound hn hk
  obtain ⟨p1, p2⟩ := pow_bound hk
  have PW := Lib.hid (fun w => l03Power_any k hk w)
  have MF := Lib.hid (fun w => sMulFloor_any (-n) ((10 ^ k : Nat) : Int) 32 (by unfold InF at hn; unfold In64; omega) (by unfold In64; omega) (by unfold In64; omega) w)
  have ME := mf_of (a := -n) (p := ((10 ^ k : Nat) : Int)) (V := -(n * ((10 ^ k : Nat) : Int))) (Int.neg_mul _ _) (by omega) (by omega)
  rw [ME] at MF
  obtain ⟨x, hx⟩ : ∃ x : Int, x = -(n * ((10 ^ k : Nat) : Int)) / 4294967296 := ⟨_, rfl⟩
  rw [← hx] at MF
  have X : Hid (txX true (n * ((10 ^ k : Nat) : Int)) = -x) := Lib.hid (by unfold txX; rw [hx]; rfl)
  have x0 : -4611686018427387904 ≤ x ∧ x ≤ 4611686018427387904 := by omega
  obtain ⟨x1, x2⟩ := x0
  have LU := Lib.hid (fun w => l03Units_any (-x) k (by omega) (by omega) hk w)
  have IN := Lib.hid (fun w => l00In_yes (k : Int) 0 9 (by omega) (by omega) w)
  have ni : -1152921504606846976 ≤ n ∧ n ≤ 1152921504606846976 := hn
  obtain ⟨n0, n1⟩ := ni
  rw [X.out]
  clear ME hx X b0 b1 hn p1 p2
  generalize ((10 ^ k : Nat) : Int) = P at *
  go_enter Tryd.func13, Tryd.ntmps13
  go_wp2_with fail
  refine (l03Ok_any n _).mono ?_
  rintro e w0 ⟨rfl, rfl⟩
  go_wp2_with fail
  refine (IN.out _).mono ?_
  rintro e w0 ⟨rfl, rfl⟩
  go_wp2_with fail
  refine (PW.out _).mono ?_
  rintro e w0 ⟨rfl, rfl⟩
  go_wp2_with fail
  refine (MF.out _).mono ?_
  rintro e w1 ⟨rfl, hb1⟩
  have hs1 : _ ≤ w1.heap.size := hb1.size
  try simp at hs1
  go_wp2_with fail
  refine (LU.out _).mono ?_
  rintro e w2 ⟨rfl, hb2⟩
  have hs2 : _ ≤ w2.heap.size := hb2.size
  try simp at hs2
  go_wp2
  go_ret
  exact ⟨rfl, belB⟩
theorem l03Text_none (n d : Int) (b : Bool) (h : ¬ (InF n ∧ 0 ≤ d ∧ d ≤ 9)) (w : World) : Calls Tryd.prog 13 #[.int .i64 n, .int .i64 d, .bool b] w fun e w' =>
    e = .returned (.string ⟨#[]⟩) ∧ Below w.heap.size w w' := by
  by_cases a : InF n
  · have O := okF_yes a
    have h' : ¬ (0 ≤ d ∧ d ≤ 9) := fun k => h ⟨a, k⟩
    have IN := Lib.hid (fun w => l00In_no d 0 9 (by omega) w)
    clear h a h'
    go_enter Tryd.func13, Tryd.ntmps13
    go_wp2_with fail
    refine (l03Ok_any n _).mono ?_
    rintro e w0 ⟨rfl, rfl⟩
    go_wp2_with fail
    refine (IN.out _).mono ?_
    rintro e w0 ⟨rfl, rfl⟩
    go_wp2
    go_ret
    exact ⟨rfl, Below.refl _ _⟩
  · have O := okF_no a
    clear h a
    go_enter Tryd.func13, Tryd.ntmps13
    go_wp2_with fail
    refine (l03Ok_any n _).mono ?_
    rintro e w0 ⟨rfl, rfl⟩
    go_wp2
    go_ret
    exact ⟨rfl, Below.refl _ _⟩
theorem TextDown_yes (n : Int) (k : Nat) (hn : InF n) (hk : k ≤ 9) (w : World) (ht : Tab w) : Calls Tryd.prog 7 #[.int .i64 n, .int .i64 (k : Int)] w fun e w' =>
    e = .returned (.string ⟨(unT (txX false (n * ((10 ^ k : Nat) : Int))) k).toArray⟩) ∧ Below w.heap.size w w' := by
  obtain ⟨b0, b1⟩ := unit_bound hn hk
  have SC := Lib.hid (fun w => scaled_yes n k hn hk w)
  have T1 := Lib.hid (fun w' (hb : Below w.heap.size w w') => tab_below ht hb)
  generalize n * ((10 ^ k : Nat) : Int) = V at *
  have DC := Lib.hid (fun w ht => decimalOf_down (.agg #[.int .i64 (hiW V), .int .u64 (loW V), .int .i64 4294967296]) (txX false V) (by unfold txX; simp only [Bool.false_eq_true, if_false]; unfold InW; omega) (fun w => by
    have := ratio_down V 4294967296 (by unfold InW; omega) (by unfold In64; omega) w
    rw [show okD 4294967296 = true by decide, show quoW V 4294967296 = txX false V from rfl] at this
    exact this) k hk w ht)
  generalize unT (txX false V) k = t at *
  clear b0 b1 ht hn
  go_enter Tryd.func7, Tryd.ntmps7
  go_wp2_with fail
  refine (SC.out _).mono ?_
  rintro e w1 ⟨rfl, hb1⟩
  have hs1 : _ ≤ w1.heap.size := hb1.size
  try simp at hs1
  go_wp2_with fail
  refine (DC.out _ (T1.out _ belB)).mono ?_
  rintro e w2 ⟨rfl, hb2⟩
  have hs2 : _ ≤ w2.heap.size := hb2.size
  try simp at hs2
  go_wp2
  go_ret
  exact ⟨rfl, belB⟩
theorem TextDown_none (n d : Int) (h : ¬ (InF n ∧ 0 ≤ d ∧ d ≤ 9)) (w : World) : Calls Tryd.prog 7 #[.int .i64 n, .int .i64 d] w fun e w' =>
    e = .returned (.string ⟨#[]⟩) ∧ Below w.heap.size w w' := by
  have SC := Lib.hid (fun w => scaled_no n d h w)
  have DC := Lib.hid (fun w => decimalOf_none_down d w)
  clear h
  go_enter Tryd.func7, Tryd.ntmps7
  go_wp2_with fail
  refine (SC.out _).mono ?_
  rintro e w1 ⟨rfl, hb1⟩
  have hs1 : _ ≤ w1.heap.size := hb1.size
  try simp at hs1
  go_wp2_with fail
  refine (DC.out _).mono ?_
  rintro e w2 ⟨rfl, hb2⟩
  have hs2 : _ ≤ w2.heap.size := hb2.size
  try simp at hs2
  go_wp2
  go_ret
  exact ⟨rfl, belB⟩
theorem sTextDown_of (n d : Int) (t : ByteArray) (C : ∀ w, Calls Tryd.prog 13 #[.int .i64 n, .int .i64 d, .bool false] w fun e w' => e = .returned (.string t) ∧ Below w.heap.size w w') (w : World) : Calls Tryd.prog 6 #[.int .i64 n, .int .i64 d] w fun e w' =>
    e = .returned (.string t) ∧ Below w.heap.size w w' := by
  have CH := Lib.hid C
  clear C
  go_enter Tryd.func6, Tryd.ntmps6
  go_wp2_with fail
  refine (CH.out _).mono ?_
  rintro e w1 ⟨rfl, hb1⟩
  have hs1 : _ ≤ w1.heap.size := hb1.size
  try simp at hs1
  go_wp2
  go_ret
  exact ⟨rfl, belB⟩
theorem law_TextDown_of (n d : Int) (t : ByteArray) (S : ∀ w, Calls Tryd.prog 6 #[.int .i64 n, .int .i64 d] w fun e w' => e = .returned (.string t) ∧ Below w.heap.size w w') (w : World)
    (P : ∀ w', Below w.heap.size w w' → Calls Tryd.prog 7 #[.int .i64 n, .int .i64 d] w' fun e w2 => e = .returned (.string t) ∧ Below w'.heap.size w' w2) : Calls Tryd.prog 3 #[.int .i64 n, .int .i64 d] w fun e w' =>
    e = .returned (.bool true) ∧ Below w.heap.size w w' := by
  have SH := Lib.hid S
  have PH := Lib.hid P
  clear S P
  go_enter Tryd.func3, Tryd.ntmps3
  go_wp2_with fail
  refine (SH.out _).mono ?_
  rintro e w1 ⟨rfl, hb1⟩
  have hs1 : _ ≤ w1.heap.size := hb1.size
  try simp at hs1
  go_wp2_with fail
  refine (PH.out _ hb1).mono ?_
  rintro e w2 ⟨rfl, hb2⟩
  have hs2 : _ ≤ w2.heap.size := hb2.size
  try simp at hs2
  go_wp2
  go_ret
  exact ⟨rfl, belB⟩
theorem law_TextDown (n d : Int) (hn : In64 n) (hd : In64 d) (w : World) (ht : Tab w) : Calls Tryd.prog 3 #[.int .i64 n, .int .i64 d] w fun e w' =>
    e = .returned (.bool true) ∧ Below w.heap.size w w' := by
  by_cases h : InF n ∧ 0 ≤ d ∧ d ≤ 9
  · obtain ⟨k, rfl⟩ : ∃ k : Nat, d = (k : Int) := ⟨d.toNat, by omega⟩
    exact law_TextDown_of n k _ (fun w => sTextDown_of n k _ (fun w => l03Text_down n k h.1 (by omega) w) w) w (fun w' hb => TextDown_yes n k h.1 (by omega) w' (tab_below ht hb))
  · exact law_TextDown_of n d _ (fun w => sTextDown_of n d _ (fun w => l03Text_none n d false h w) w) w (fun w' hb => TextDown_none n d h w')
theorem TextUp_yes (n : Int) (k : Nat) (hn : InF n) (hk : k ≤ 9) (w : World) (ht : Tab w) : Calls Tryd.prog 9 #[.int .i64 n, .int .i64 (k : Int)] w fun e w' =>
    e = .returned (.string ⟨(unT (txX true (n * ((10 ^ k : Nat) : Int))) k).toArray⟩) ∧ Below w.heap.size w w' := by
  obtain ⟨b0, b1⟩ := unit_bound hn hk
  have SC := Lib.hid (fun w => scaled_yes n k hn hk w)
  have T1 := Lib.hid (fun w' (hb : Below w.heap.size w w') => tab_below ht hb)
  generalize n * ((10 ^ k : Nat) : Int) = V at *
  have DC := Lib.hid (fun w ht => decimalOf_up (.agg #[.int .i64 (hiW V), .int .u64 (loW V), .int .i64 4294967296]) (txX true V) (by unfold txX cei; simp only [if_true]; unfold InW; omega) (fun w => by
    have := ratio_up V 4294967296 (by unfold InW; omega) (by unfold In64; omega) w
    rw [show okD 4294967296 = true by decide, show upW V 4294967296 = txX true V from rfl] at this
    exact this) k hk w ht)
  generalize unT (txX true V) k = t at *
  clear b0 b1 ht hn
  go_enter Tryd.func9, Tryd.ntmps9
  go_wp2_with fail
  refine (SC.out _).mono ?_
  rintro e w1 ⟨rfl, hb1⟩
  have hs1 : _ ≤ w1.heap.size := hb1.size
  try simp at hs1
  go_wp2_with fail
  refine (DC.out _ (T1.out _ belB)).mono ?_
  rintro e w2 ⟨rfl, hb2⟩
  have hs2 : _ ≤ w2.heap.size := hb2.size
  try simp at hs2
  go_wp2
  go_ret
  exact ⟨rfl, belB⟩
theorem TextUp_none (n d : Int) (h : ¬ (InF n ∧ 0 ≤ d ∧ d ≤ 9)) (w : World) : Calls Tryd.prog 9 #[.int .i64 n, .int .i64 d] w fun e w' =>
    e = .returned (.string ⟨#[]⟩) ∧ Below w.heap.size w w' := by
  have SC := Lib.hid (fun w => scaled_no n d h w)
  have DC := Lib.hid (fun w => decimalOf_none_up d w)
  clear h
  go_enter Tryd.func9, Tryd.ntmps9
  go_wp2_with fail
  refine (SC.out _).mono ?_
  rintro e w1 ⟨rfl, hb1⟩
  have hs1 : _ ≤ w1.heap.size := hb1.size
  try simp at hs1
  go_wp2_with fail
  refine (DC.out _).mono ?_
  rintro e w2 ⟨rfl, hb2⟩
  have hs2 : _ ≤ w2.heap.size := hb2.size
  try simp at hs2
  go_wp2
  go_ret
  exact ⟨rfl, belB⟩
theorem sTextUp_of (n d : Int) (t : ByteArray) (C : ∀ w, Calls Tryd.prog 13 #[.int .i64 n, .int .i64 d, .bool true] w fun e w' => e = .returned (.string t) ∧ Below w.heap.size w w') (w : World) : Calls Tryd.prog 8 #[.int .i64 n, .int .i64 d] w fun e w' =>
    e = .returned (.string t) ∧ Below w.heap.size w w' := by
  have CH := Lib.hid C
  clear C
  go_enter Tryd.func8, Tryd.ntmps8
  go_wp2_with fail
  refine (CH.out _).mono ?_
  rintro e w1 ⟨rfl, hb1⟩
  have hs1 : _ ≤ w1.heap.size := hb1.size
  try simp at hs1
  go_wp2
  go_ret
  exact ⟨rfl, belB⟩
theorem law_TextUp_of (n d : Int) (t : ByteArray) (S : ∀ w, Calls Tryd.prog 8 #[.int .i64 n, .int .i64 d] w fun e w' => e = .returned (.string t) ∧ Below w.heap.size w w') (w : World)
    (P : ∀ w', Below w.heap.size w w' → Calls Tryd.prog 9 #[.int .i64 n, .int .i64 d] w' fun e w2 => e = .returned (.string t) ∧ Below w'.heap.size w' w2) : Calls Tryd.prog 4 #[.int .i64 n, .int .i64 d] w fun e w' =>
    e = .returned (.bool true) ∧ Below w.heap.size w w' := by
  have SH := Lib.hid S
  have PH := Lib.hid P
  clear S P
  go_enter Tryd.func4, Tryd.ntmps4
  go_wp2_with fail
  refine (SH.out _).mono ?_
  rintro e w1 ⟨rfl, hb1⟩
  have hs1 : _ ≤ w1.heap.size := hb1.size
  try simp at hs1
  go_wp2_with fail
  refine (PH.out _ hb1).mono ?_
  rintro e w2 ⟨rfl, hb2⟩
  have hs2 : _ ≤ w2.heap.size := hb2.size
  try simp at hs2
  go_wp2
  go_ret
  exact ⟨rfl, belB⟩
theorem law_TextUp (n d : Int) (hn : In64 n) (hd : In64 d) (w : World) (ht : Tab w) : Calls Tryd.prog 4 #[.int .i64 n, .int .i64 d] w fun e w' =>
    e = .returned (.bool true) ∧ Below w.heap.size w w' := by
  by_cases h : InF n ∧ 0 ≤ d ∧ d ≤ 9
  · obtain ⟨k, rfl⟩ : ∃ k : Nat, d = (k : Int) := ⟨d.toNat, by omega⟩
    exact law_TextUp_of n k _ (fun w => sTextUp_of n k _ (fun w => l03Text_up n k h.1 (by omega) w) w) w (fun w' hb => TextUp_yes n k h.1 (by omega) w' (tab_below ht hb))
  · exact law_TextUp_of n d _ (fun w => sTextUp_of n d _ (fun w => l03Text_none n d true h w) w) w (fun w' hb => TextUp_none n d h w')
end Go.Proofs.YtohidondlndkhaaDoor
