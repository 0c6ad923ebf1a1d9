/- The program's decimal text of a Wide. Conditions: a Wide; the library's table of powers of ten is laid. -/
import Derived.Test.YtohidondlndkhaaDoorFmS
namespace Go.Proofs.YtohidondlndkhaaDoor
open Go.ChangeShapes Go.WideShapes Go.ChangeAt Go.RowKit
set_option linter.unusedVariables false
set_option maxRecDepth 100000
set_option linter.unusedSimpArgs false
set_option maxHeartbeats 1000000

theorem WideText_any (v : Int) (hv : InW v) (w : World) (ht : Tab w) : Calls Tryd.prog 26 #[.agg #[.int .i64 (hiW v), .int .u64 (loW v)]] w fun e w' =>
    e = .returned (.string ⟨(Lib.itoa v).toArray⟩) ∧ Below w.heap.size w w' := by
  have M := Lib.hid (fun w => magnitudeOf_any v hv w)
  have S := Lib.hid (fun w ht => String_any v.natAbs (v.natAbs : Int) (by omega) (by omega) (by unfold InW at hv; omega) w ht)
  have l40 : (Lib.decDigits v.natAbs).length ≤ 39 + 1 := dd_len _ 39 (by
    have t : (10 : Nat) ^ (39 + 1) = 10000000000000000000000000000000000000000 := by decide
    unfold InW at hv; omega)
  rw [Int.toNat_natCast] at S
  have T1 := Lib.hid (fun w' (hb : Below w.heap.size w w') => tab_below ht hb)
  clear ht
  by_cases s : v < 0
  · have s0 : hiW v < 0 := hi_neg_iff.2 s
    have IT := Lib.hid (show Lib.itoa v = 45 :: Lib.decDigits v.natAbs by
      obtain ⟨u, rfl⟩ : ∃ u : Nat, v = -(u : Int) := ⟨v.natAbs, by omega⟩
      rw [Lib.itoa_neg u (by omega)]
      congr 2; omega)
    have n1 : ¬ 9223372036854775807 < 1 + (Lib.decDigits v.natAbs).length := by omega
    clear s l40
    go_enter Tryd.func26, Tryd.ntmps26
    go_wp2_with fail
    refine (M.out _).mono ?_
    rintro e w1 ⟨rfl, hb1⟩
    have hs1 : _ ≤ w1.heap.size := hb1.size
    try simp at hs1
    obtain ⟨hc1, hf1⟩ := old_kept hb1; have hz1 : w.heap.size < w1.heap.size := Nat.lt_of_lt_of_le (by first | omega | (simp; done) | (simp; omega)) hb1.size
    have k10 := hc1 (w.heap.size) 0 (by first | assumption | omega | (simp; done) | (simp; omega)); have k11 := hc1 (w.heap.size) 1 (by first | assumption | omega | (simp; done) | (simp; omega))
    go_wp2_with fail
    refine (S.out _ (T1.out _ belB)).mono ?_
    rintro e w2 ⟨rfl, hb2⟩
    have hs2 : _ ≤ w2.heap.size := hb2.size
    try simp at hs2
    obtain ⟨hc2, hf2⟩ := old_kept hb2; have hz2 : w.heap.size < w2.heap.size := Nat.lt_of_lt_of_le (by first | omega | (simp; done) | (simp; omega)) hb2.size
    have q0 := (hc2 (w.heap.size) 0 (by first | assumption | omega | (simp; done) | (simp; omega))).trans k10; have q1 := (hc2 (w.heap.size) 1 (by first | assumption | omega | (simp; done) | (simp; omega))).trans k11
    go_wp2
    go_ret
    exact ⟨by rw [IT.out]; rfl, belB⟩
  · have s0 : ¬ hiW v < 0 := fun h => s (hi_neg_iff.1 h)
    have IT := Lib.hid (show Lib.itoa v = Lib.decDigits v.natAbs by
      obtain ⟨u, rfl⟩ : ∃ u : Nat, v = (u : Int) := ⟨v.natAbs, by omega⟩
      rw [Lib.itoa_nonneg u]; rfl)
    clear s l40
    go_enter Tryd.func26, Tryd.ntmps26
    go_wp2_with fail
    refine (M.out _).mono ?_
    rintro e w1 ⟨rfl, hb1⟩
    have hs1 : _ ≤ w1.heap.size := hb1.size
    try simp at hs1
    obtain ⟨hc1, hf1⟩ := old_kept hb1; have hz1 : w.heap.size < w1.heap.size := Nat.lt_of_lt_of_le (by first | omega | (simp; done) | (simp; omega)) hb1.size
    have k10 := hc1 (w.heap.size) 0 (by first | assumption | omega | (simp; done) | (simp; omega)); have k11 := hc1 (w.heap.size) 1 (by first | assumption | omega | (simp; done) | (simp; omega))
    go_wp2_with fail
    refine (S.out _ (T1.out _ belB)).mono ?_
    rintro e w2 ⟨rfl, hb2⟩
    have hs2 : _ ≤ w2.heap.size := hb2.size
    try simp at hs2
    obtain ⟨hc2, hf2⟩ := old_kept hb2; have hz2 : w.heap.size < w2.heap.size := Nat.lt_of_lt_of_le (by first | omega | (simp; done) | (simp; omega)) hb2.size
    have q0 := (hc2 (w.heap.size) 0 (by first | assumption | omega | (simp; done) | (simp; omega))).trans k10; have q1 := (hc2 (w.heap.size) 1 (by first | assumption | omega | (simp; done) | (simp; omega))).trans k11
    go_wp2
    go_ret
    exact ⟨by rw [IT.out]; rfl, belB⟩
end Go.Proofs.YtohidondlndkhaaDoor
