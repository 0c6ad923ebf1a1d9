/- The text of an interval, and its law. Conditions: numbers are int64; the library's table of powers of ten is laid. -/
import Derived.Test.YtohidondlndkhaaDoorTxL
import Derived.Test.YtohidondlndkhaaDoorIvK
import Derived.Deep.RegionHeld3
namespace Go.Proofs.YtohidondlndkhaaDoor
open Go.ChangeShapes Go.WideShapes Go.ChangeAt Go.RowKit
set_option linter.unusedVariables false
set_option maxRecDepth 100000
set_option linter.unusedSimpArgs false
set_option maxHeartbeats 1000000

theorem unT_len {X : Int} (h0 : -1000000000000000000000 ≤ X) (h1 : X ≤ 1000000000000000000000) : (unT X 9).length ≤ 60 := by
  have p : (10 : Nat) ^ 9 = 1000000000 := by decide
  have a := dd_len (X.natAbs / 10 ^ 9) 39 (by
    have t : (10 : Nat) ^ (39 + 1) = 10000000000000000000000000000000000000000 := by decide
    rw [p]; omega)
  have b := padT_len (k := 9) (r := X.natAbs % 10 ^ 9) (by omega) (Nat.mod_lt _ (by decide))
  unfold unT
  rw [if_neg (show ¬ (9 : Nat) = 0 by decide), List.length_append, List.length_append, List.length_cons, b]
  split <;> simp only [List.length_cons, List.length_nil] <;> omega
theorem text_small (b : Bool) {n : Int} (hn : InF n) : (⟨(unT (txX b (n * ((10 ^ 9 : Nat) : Int))) 9).toArray⟩ : ByteArray).size ≤ 60 := by
  obtain ⟨b0, b1⟩ := unit_bound hn (show 9 ≤ 9 by omega)
  show (unT _ 9).length ≤ 60
  generalize n * ((10 ^ 9 : Nat) : Int) = V at *
  apply unT_len
  · cases b
    · show _ ≤ V / 4294967296; omega
    · show _ ≤ -(-V / 4294967296); omega
  · cases b
    · show V / 4294967296 ≤ _; omega
    · show -(-V / 4294967296) ≤ _; omega
def ivT (x : Iv) : ByteArray := if Bnd x then (⟨#[91]⟩ : ByteArray) ++ ⟨(unT (txX false (x.1 * ((10 ^ 9 : Nat) : Int))) 9).toArray⟩ ++ ⟨#[44, 32]⟩ ++ ⟨(unT (txX true (x.2 * ((10 ^ 9 : Nat) : Int))) 9).toArray⟩ ++ ⟨#[93]⟩ else ⟨#[119, 104, 111, 108, 101]⟩
theorem IntervalText_any (x : Iv) (w : World) (ht : Tab w) : Calls Tryd.prog 12 #[.agg #[.int .i64 x.1, .int .i64 x.2]] w fun e w' =>
    e = .returned (.string (ivT x)) ∧ Below w.heap.size w w' := by
  have T1 := Lib.hid (fun w' (hb : Below w.heap.size w w') => tab_below ht hb)
  clear ht
  have I := Lib.hid (fun w => IsWhole_any x w)
  by_cases h : Bnd x
  · rw [bnd_yes h] at I
    have f1 : InF x.1 := by unfold Bnd at h; unfold InF; omega
    have f2 : InF x.2 := by unfold Bnd at h; unfold InF; omega
    have D := Lib.hid (fun w ht => TextDown_yes x.1 9 f1 (by omega) w ht)
    have U := Lib.hid (fun w ht => TextUp_yes x.2 9 f2 (by omega) w ht)
    have s1 := text_small false f1
    have s2 := text_small true f2
    have V := Lib.hid (show ivT x = _ from if_pos h)
    clear h f1 f2
    generalize (⟨(unT (txX false (x.1 * ((10 ^ 9 : Nat) : Int))) 9).toArray⟩ : ByteArray) = t1 at *
    generalize (⟨(unT (txX true (x.2 * ((10 ^ 9 : Nat) : Int))) 9).toArray⟩ : ByteArray) = t2 at *
    have n1 : ¬ 9223372036854775807 < 1 + t1.size := by omega
    have n2 : ¬ 9223372036854775807 < 1 + t1.size + 2 := by omega
    have n3 : ¬ 9223372036854775807 < 1 + t1.size + 2 + t2.size := by omega
    have n4 : ¬ 9223372036854775807 < 1 + t1.size + 2 + t2.size + 1 := by omega
    go_enter Tryd.func12, Tryd.ntmps12
    go_wp2_with fail
    refine (I.out _).mono ?_
    rintro e w1 ⟨rfl, hb1⟩
    have hs1 : _ ≤ w1.heap.size := hb1.size
    try simp at hs1
    have o_p0 : Own (w1) (w.heap.size) 0 (.int .i64 x.1) := ownJ; obtain ⟨p0, f_p0⟩ := o_p0; have o_p1 : Own (w1) (w.heap.size) 1 (.int .i64 x.2) := ownJ; obtain ⟨p1, f_p1⟩ := o_p1
    go_wp2
    obtain ⟨hlt2, hlt3, hlt4, hlt5, hlt6, hlt7, hlt8, hlt9, hlt10, hlt11⟩ := below_add; go_region_held3 (fun w' => w'.cell? ⟨w.heap.size, 0, none⟩ = some (.int .i64 x.1) ∧ w'.cell? ⟨w.heap.size, 1, none⟩ = some (.int .i64 x.2)) (first | (with_reducible exact ((And.imp (cell_kept (by assumption)) (cell_kept (by assumption))) (by assumption))) | (with_reducible exact ((And.imp (cell_alloc) (cell_alloc)) (by assumption))) | (with_reducible exact ((And.imp (fun h => cell_far (by first | (simp; done) | (simp; omega)) (cell_far (by first | (simp; done) | (simp; omega)) h)) (fun h => cell_far (by first | (simp; done) | (simp; omega)) (cell_far (by first | (simp; done) | (simp; omega)) h))) (by assumption))) | (refine ⟨?_, ?_⟩ <;> repeat (first | (with_reducible assumption) | (with_reducible refine cell_far (by first | (simp; done) | (simp; omega)) ?_) | (with_reducible refine cell_drew ?_) | (with_reducible refine cell_drewN ?_) | (with_reducible refine cell_kept (by assumption) ?_) | (simp [go_sem]; done) | (with_reducible refine cell_alloc ?_))) | (simp [go_sem, *]; done)) (first | (go_at_call 7; refine (D.out _ (T1.out _ belB)).mono ?_; rintro e w1 ⟨rfl, hb⟩; have hs : _ ≤ w1.heap.size := hb.size; (try simp at hs); obtain ⟨hc, hf, hl, hn, hm⟩ := behind hb) | (go_at_call 9; refine (U.out _ (T1.out _ belB)).mono ?_; rintro e w1 ⟨rfl, hb⟩; have hs : _ ≤ w1.heap.size := hb.size; (try simp at hs); obtain ⟨hc, hf, hl, hn, hm⟩ := behind hb))
    all_goals go_wp2
    all_goals go_ret
    all_goals exact ⟨by rw [V.out]; rfl, belB⟩
  · rw [bnd_no h] at I
    have V := Lib.hid (show ivT x = _ from if_neg h)
    clear h
    go_enter Tryd.func12, Tryd.ntmps12
    go_wp2_with fail
    refine (I.out _).mono ?_
    rintro e w1 ⟨rfl, hb1⟩
    have hs1 : _ ≤ w1.heap.size := hb1.size
    try simp at hs1
    go_wp2
    go_ret
    exact ⟨by rw [V.out]; rfl, belB⟩
theorem l04Text_any (x : Iv) (w : World) : Calls Tryd.prog 18 #[.agg #[.int .i64 x.1, .int .i64 x.2]] w fun e w' =>
    e = .returned (.string (ivT x)) ∧ Below w.heap.size w w' := by
  have I := Lib.hid (fun w => l04Ok_any x w)
  by_cases h : Bnd x
  · rw [bnd_yes h] at I
    have f1 : InF x.1 := by unfold Bnd at h; unfold InF; omega
    have f2 : InF x.2 := by unfold Bnd at h; unfold InF; omega
    have D : Hid (∀ w, Calls Tryd.prog 13 #[.int .i64 x.1, .int .i64 9, .bool false] w fun e w' => e = .returned (.string (⟨(unT (txX false (x.1 * ((10 ^ 9 : Nat) : Int))) 9).toArray⟩ : ByteArray)) ∧ Below w.heap.size w w') := Lib.hid (fun w => l03Text_down x.1 9 f1 (by omega) w)
    have U : Hid (∀ w, Calls Tryd.prog 13 #[.int .i64 x.2, .int .i64 9, .bool true] w fun e w' => e = .returned (.string (⟨(unT (txX true (x.2 * ((10 ^ 9 : Nat) : Int))) 9).toArray⟩ : ByteArray)) ∧ Below w.heap.size w w') := Lib.hid (fun w => l03Text_up x.2 9 f2 (by omega) w)
    have s1 := text_small false f1
    have s2 := text_small true f2
    have V := Lib.hid (show ivT x = _ from if_pos h)
    clear h f1 f2
    generalize (⟨(unT (txX false (x.1 * ((10 ^ 9 : Nat) : Int))) 9).toArray⟩ : ByteArray) = t1 at *
    generalize (⟨(unT (txX true (x.2 * ((10 ^ 9 : Nat) : Int))) 9).toArray⟩ : ByteArray) = t2 at *
    have n1 : ¬ 9223372036854775807 < 1 + t1.size := by omega
    have n2 : ¬ 9223372036854775807 < 1 + t1.size + 2 := by omega
    have n3 : ¬ 9223372036854775807 < 1 + t1.size + 2 + t2.size := by omega
    have n4 : ¬ 9223372036854775807 < 1 + t1.size + 2 + t2.size + 1 := by omega
    go_enter Tryd.func18, Tryd.ntmps18
    go_wp2_with fail
    refine (I.out _).mono ?_
    rintro e w1 ⟨rfl, hb1⟩
    have hs1 : _ ≤ w1.heap.size := hb1.size
    try simp at hs1
    have o_p0 : Own (w1) (w.heap.size) 0 (.int .i64 x.1) := ownJ; obtain ⟨p0, f_p0⟩ := o_p0; have o_p1 : Own (w1) (w.heap.size) 1 (.int .i64 x.2) := ownJ; obtain ⟨p1, f_p1⟩ := o_p1
    go_wp2
    obtain ⟨hlt2, hlt3, hlt4, hlt5, hlt6, hlt7, hlt8, hlt9, hlt10, hlt11⟩ := below_add; go_region_held3 (fun w' => w'.cell? ⟨w.heap.size, 0, none⟩ = some (.int .i64 x.1) ∧ w'.cell? ⟨w.heap.size, 1, none⟩ = some (.int .i64 x.2)) (first | (with_reducible exact ((And.imp (cell_kept (by assumption)) (cell_kept (by assumption))) (by assumption))) | (with_reducible exact ((And.imp (cell_alloc) (cell_alloc)) (by assumption))) | (with_reducible exact ((And.imp (fun h => cell_far (by first | (simp; done) | (simp; omega)) (cell_far (by first | (simp; done) | (simp; omega)) h)) (fun h => cell_far (by first | (simp; done) | (simp; omega)) (cell_far (by first | (simp; done) | (simp; omega)) h))) (by assumption))) | (refine ⟨?_, ?_⟩ <;> repeat (first | (with_reducible assumption) | (with_reducible refine cell_far (by first | (simp; done) | (simp; omega)) ?_) | (with_reducible refine cell_drew ?_) | (with_reducible refine cell_drewN ?_) | (with_reducible refine cell_kept (by assumption) ?_) | (simp [go_sem]; done) | (with_reducible refine cell_alloc ?_))) | (simp [go_sem, *]; done)) (first | (go_at_call 13; with_reducible refine (D.out _).mono ?_; rintro e w1 ⟨rfl, hb⟩; have hs : _ ≤ w1.heap.size := hb.size; (try simp at hs); obtain ⟨hc, hf, hl, hn, hm⟩ := behind hb) | (go_at_call 13; with_reducible refine (U.out _).mono ?_; rintro e w1 ⟨rfl, hb⟩; have hs : _ ≤ w1.heap.size := hb.size; (try simp at hs); obtain ⟨hc, hf, hl, hn, hm⟩ := behind hb))
    all_goals go_wp2
    all_goals go_ret
    all_goals exact ⟨by rw [V.out]; rfl, belB⟩
  · rw [bnd_no h] at I
    have V := Lib.hid (show ivT x = _ from if_neg h)
    clear h
    go_enter Tryd.func18, Tryd.ntmps18
    go_wp2_with fail
    refine (I.out _).mono ?_
    rintro e w1 ⟨rfl, hb1⟩
    have hs1 : _ ≤ w1.heap.size := hb1.size
    try simp at hs1
    go_wp2
    go_ret
    exact ⟨by rw [V.out]; rfl, belB⟩
theorem sIntervalText_any (x : Iv) (w : World) : Calls Tryd.prog 10 #[.agg #[.int .i64 x.1, .int .i64 x.2]] w fun e w' =>
    e = .returned (.string (ivT x)) ∧ Below w.heap.size w w' := by
  have C := Lib.hid (fun w => l04Text_any x w)
  generalize ivT x = t at *
  go_enter Tryd.func10, Tryd.ntmps10
  go_wp2_with fail
  refine (C.out _).mono ?_
  rintro e w1 ⟨rfl, hb1⟩
  have hs1 : _ ≤ w1.heap.size := hb1.size
  try simp at hs1
  go_wp2
  go_ret
  exact ⟨rfl, belB⟩
theorem law_IntervalText (x : Iv) (w : World) (ht : Tab w) : Calls Tryd.prog 5 #[.agg #[.int .i64 x.1, .int .i64 x.2]] w fun e w' =>
    e = .returned (.bool true) ∧ Below w.heap.size w w' := by
  have S := Lib.hid (fun w => sIntervalText_any x w)
  have P := Lib.hid (fun w ht => IntervalText_any x w ht)
  have T1 := Lib.hid (fun w' (hb : Below w.heap.size w w') => tab_below ht hb)
  clear ht
  generalize ivT x = t at *
  go_enter Tryd.func5, Tryd.ntmps5
  go_wp2_with fail
  refine (toInterval_any x _).mono ?_
  rintro e w1 ⟨rfl, hb1⟩
  have hs1 : _ ≤ w1.heap.size := hb1.size
  try simp at hs1
  go_wp2_with fail
  refine (S.out _).mono ?_
  rintro e w2 ⟨rfl, hb2⟩
  have hs2 : _ ≤ w2.heap.size := hb2.size
  try simp at hs2
  have o_p20 : Own (w2) (w.heap.size) 0 (.int .i64 x.1) := ownJ; obtain ⟨p20, f_p20⟩ := o_p20; have o_p21 : Own (w2) (w.heap.size) 1 (.int .i64 x.2) := ownJ; obtain ⟨p21, f_p21⟩ := o_p21
  have lp2 : w.heap.size < w2.heap.size := World.block_lt_of_cell? _ _ p20
  have np2 : ¬ w.heap.size = w2.heap.size := Nat.ne_of_lt lp2
  have mp2 : ¬ w2.heap.size = w.heap.size := Nat.ne_of_gt lp2
  go_wp2_with fail
  refine (toInterval_any x _).mono ?_
  rintro e w3 ⟨rfl, hb3⟩
  have hs3 : _ ≤ w3.heap.size := hb3.size
  try simp at hs3
  go_wp2_with fail
  refine (P.out _ (T1.out _ belB)).mono ?_
  rintro e w4 ⟨rfl, hb4⟩
  have hs4 : _ ≤ w4.heap.size := hb4.size
  try simp at hs4
  go_wp2
  go_ret
  exact ⟨rfl, belB⟩
end Go.Proofs.YtohidondlndkhaaDoor
