/- Contracts of the fixes' own tests and of exact quotients, rounded down and up. Conditions: numbers are int64. -/
import Derived.Test.YtmikjgbojknlnaaNumZ
import Derived.Test.YtmikjgbojknlnaaWideZm
import Derived.Test.YtmikjgbojknlnaaWideZp
import Derived.Test.YtmikjgbojknlnaaWideZe
namespace Go.Proofs.Ytmikjgbojknlnaa
open Go.ChangeShapes Go.WideShapes Go.ChangeAt Go.RowKit
set_option linter.unusedVariables false
set_option maxRecDepth 100000
set_option linter.unusedSimpArgs false
set_option maxHeartbeats 1000000

theorem ValidFix_any (n : Int) (w : World) : Calls Try.prog 173 #[.int .i64 n] w fun e w' => e = .returned (.bool (okF n)) ∧ w = w' := by
  by_cases a : -1152921504606846976 ≤ n
  · by_cases b : n ≤ 1152921504606846976
    · have E := Lib.hid (okF_yes ⟨a, b⟩)
      have b0 : decide (n ≤ 1152921504606846976) = true := decide_eq_true b
      go_enter Try.func173, Try.ntmps173
      go_wp2
      go_ret
      exact ⟨(by first | (rw [E.out]; done) | (rw [E.out]; rfl) | (simp [E.out]; done)), rfl⟩
    · have E := Lib.hid (okF_no (fun h => b h.2))
      have b0 : decide (n ≤ 1152921504606846976) = false := decide_eq_false b
      go_enter Try.func173, Try.ntmps173
      go_wp2
      go_ret
      exact ⟨(by first | (rw [E.out]; done) | (rw [E.out]; rfl) | (simp [E.out]; done)), rfl⟩
  · have E := Lib.hid (okF_no (fun h => a h.1))
    go_enter Try.func173, Try.ntmps173
    go_wp2
    go_ret
    exact ⟨(by first | (rw [E.out]; done) | (rw [E.out]; rfl) | (simp [E.out]; done)), rfl⟩
theorem l03Ok_any (n : Int) (w : World) : Calls Try.prog 193 #[.int .i64 n] w fun e w' => e = .returned (.bool (okF n)) ∧ w = w' := by
  by_cases h : InF n
  · have E := Lib.hid (okF_yes h)
    have C := Lib.hid (fun w => l00In_yes n (-1152921504606846976) 1152921504606846976 h.1 h.2 w)
    clear h
    go_enter Try.func193, Try.ntmps193
    go_wp2_with fail
    refine (C.out _).mono ?_
    rintro e w1 ⟨rfl, rfl⟩
    go_wp2
    go_ret
    exact ⟨(by first | (rw [E.out]; done) | (rw [E.out]; rfl) | (simp [E.out]; done)), rfl⟩
  · have E := Lib.hid (okF_no h)
    have C := Lib.hid (fun w => l00In_no n (-1152921504606846976) 1152921504606846976 (by unfold InF at h; omega) w)
    clear h
    go_enter Try.func193, Try.ntmps193
    go_wp2_with fail
    refine (C.out _).mono ?_
    rintro e w1 ⟨rfl, rfl⟩
    go_wp2
    go_ret
    exact ⟨(by first | (rw [E.out]; done) | (rw [E.out]; rfl) | (simp [E.out]; done)), rfl⟩
theorem l03End_any (n : Int) (c : Bool) (w : World) : Calls Try.prog 194 #[.int .i64 n, .bool c] w fun e w' =>
    e = .returned (.tuple #[.int .i64 (resI c n), .bool (resB c n)]) ∧ w = w' := by
  by_cases h : InF n
  · have O := okF_yes h
    cases c
    · have E := Lib.hid (res_none (c := false) (v := n) rfl)
      clear h
      go_enter Try.func194, Try.ntmps194
      go_wp2
      go_ret2
      exact ⟨(by first | (rw [E.out.1, E.out.2]; done) | (rw [E.out.1, E.out.2]; rfl) | (simp [E.out.1, E.out.2]; done)), rfl⟩
    · have E := Lib.hid (res_yes (c := true) rfl h)
      clear h
      go_enter Try.func194, Try.ntmps194
      go_wp2_with fail
      refine (l03Ok_any n _).mono ?_
      rintro e w1 ⟨rfl, rfl⟩
      go_wp2
      go_ret2
      exact ⟨(by first | (rw [E.out.1, E.out.2]; done) | (rw [E.out.1, E.out.2]; rfl) | (simp [E.out.1, E.out.2]; done)), rfl⟩
  · have O := okF_no h
    have E := Lib.hid (res_over (c := c) h)
    clear h
    cases c
    · go_enter Try.func194, Try.ntmps194
      go_wp2
      go_ret2
      exact ⟨(by first | (rw [E.out.1, E.out.2]; done) | (rw [E.out.1, E.out.2]; rfl) | (simp [E.out.1, E.out.2]; done)), rfl⟩
    · go_enter Try.func194, Try.ntmps194
      go_wp2_with fail
      refine (l03Ok_any n _).mono ?_
      rintro e w1 ⟨rfl, rfl⟩
      go_wp2
      go_ret2
      exact ⟨(by first | (rw [E.out.1, E.out.2]; done) | (rw [E.out.1, E.out.2]; rfl) | (simp [E.out.1, E.out.2]; done)), rfl⟩
theorem ratio_down (v d : Int) (hv : InW v) (hd : In64 d) (w : World) : Calls Try.prog 209 #[.agg #[.int .i64 (hiW v), .int .u64 (loW v), .int .i64 d]] w fun e w' =>
    e = .returned (.tuple #[.agg #[.int .i64 (hiW (quoW v d)), .int .u64 (loW (quoW v d))], .bool (okD d)]) ∧ Below w.heap.size w w' := by
  go_enter Try.func209, Try.ntmps209
  go_wp2_with fail
  refine (WideDiv_any v d hv hd _).mono ?_
  rintro e w1 ⟨rfl, hb1⟩
  have hs1 : _ ≤ w1.heap.size := hb1.size
  try simp at hs1
  obtain ⟨hc1, hf1⟩ := old_kept hb1; have hz1 : w.heap.size + 1 < w1.heap.size := Nat.lt_of_lt_of_le (by first | omega | (simp; done) | (simp; omega)) hb1.size; have hz1a : w.heap.size < w1.heap.size := Nat.lt_of_lt_of_le (by first | omega | (simp; done) | (simp; omega)) hb1.size
  go_wp2
  exact bodyPost_ret (v := .tuple #[.agg #[.int .i64 (hiW (quoW v d)), .int .u64 (loW (quoW v d))], .bool (okD d)]) (by simp [results, Try.results209, go_sem, hc1, hz1]) rfl ⟨rfl, belB⟩
theorem ratio_up (v d : Int) (hv : InW v) (hd : In64 d) (w : World) : Calls Try.prog 210 #[.agg #[.int .i64 (hiW v), .int .u64 (loW v), .int .i64 d]] w fun e w' =>
    e = .returned (.tuple #[.agg #[.int .i64 (hiW (upW v d)), .int .u64 (loW (upW v d))], .bool (okD d)]) ∧ Below w.heap.size w w' := by
  by_cases d0 : 1 ≤ d
  · have O := Lib.hid (show okD d = true from decide_eq_true d0)
    have U := Lib.hid (show upW v d = cei v d from if_pos d0)
    have Q := Lib.hid (show quoW v d = v / d from if_pos d0)
    have R := Lib.hid (show remW v d = v % d from if_pos d0)
    by_cases r : v % d = 0
    · have r0 : (v % d == 0) = true := by simpa using r
      have C := Lib.hid (cei_exact d0 r)
      clear r d0
      go_enter Try.func210, Try.ntmps210
      go_wp2_with fail
      refine (WideDiv_any v d hv hd _).mono ?_
      rintro e w1 ⟨rfl, hb1⟩
      have hs1 : _ ≤ w1.heap.size := hb1.size
      try simp at hs1
      rw [Q.out, R.out]
      obtain ⟨hc1, hf1⟩ := old_kept hb1; have hz1 : w.heap.size + 1 < w1.heap.size := Nat.lt_of_lt_of_le (by first | omega | (simp; done) | (simp; omega)) hb1.size; have hz1a : w.heap.size < w1.heap.size := Nat.lt_of_lt_of_le (by first | omega | (simp; done) | (simp; omega)) hb1.size
      go_wp2
      exact bodyPost_ret (v := .tuple #[.agg #[.int .i64 (hiW (v / d)), .int .u64 (loW (v / d))], .bool (okD d)]) (by simp [results, Try.results210, go_sem, hc1, hz1]) rfl ⟨(by first | (rw [U.out, C.out]; done) | (rw [U.out, C.out]; rfl) | (simp [U.out, C.out]; done)), belB⟩
    · have r0 : (v % d == 0) = false := by simpa using r
      have C := Lib.hid (cei_more d0 r)
      have S := Lib.hid (show InW (v / d + 1) from quo_room hv d0 r)
      have QI := Lib.hid (show InW (v / d) from quo_in hv d0)
      have S1 := Lib.hid (show sumW (v / d) 1 = v / d + 1 from if_pos S.out)
      have S2 := Lib.hid (show sumOk (v / d) 1 = true from decide_eq_true S.out)
      have W1 := Lib.hid (fun w => WideOf_any 1 (by unfold In64; omega) w)
      have WA := Lib.hid (fun w => WideAdd_any (v / d) 1 QI.out (by unfold InW; omega) w)
      clear r d0
      go_enter Try.func210, Try.ntmps210
      go_wp2_with fail
      refine (WideDiv_any v d hv hd _).mono ?_
      rintro e w1 ⟨rfl, hb1⟩
      have hs1 : _ ≤ w1.heap.size := hb1.size
      try simp at hs1
      rw [Q.out, R.out]
      obtain ⟨hc1, hf1⟩ := old_kept hb1; have hz1 : w.heap.size + 1 < w1.heap.size := Nat.lt_of_lt_of_le (by first | omega | (simp; done) | (simp; omega)) hb1.size; have hz1a : w.heap.size < w1.heap.size := Nat.lt_of_lt_of_le (by first | omega | (simp; done) | (simp; omega)) hb1.size
      go_wp2_with fail
      obtain ⟨hlt2, hlt3, hlt4, hlt5, hlt6, hlt7, hlt8, hlt9, hlt10, hlt11⟩ := below_add; go_region_held3 (fun w' => w'.cell? ⟨w1.heap.size, 0, none⟩ = some (.int .i64 (hiW (v / d))) ∧ w'.cell? ⟨w1.heap.size, 1, none⟩ = some (.int .u64 (loW (v / d)))) (first | (with_reducible exact ((And.imp (cell_kept (by assumption)) (cell_kept (by assumption))) (by assumption))) | (with_reducible exact ((And.imp (cell_alloc) (cell_alloc)) (by assumption))) | (with_reducible exact ((And.imp (fun h => cell_far (by first | (simp; done) | (simp; omega)) (cell_far (by first | (simp; done) | (simp; omega)) h)) (fun h => cell_far (by first | (simp; done) | (simp; omega)) (cell_far (by first | (simp; done) | (simp; omega)) h))) (by assumption))) | (refine ⟨?_, ?_⟩ <;> repeat (first | (with_reducible assumption) | (with_reducible refine cell_far (by first | (simp; done) | (simp; omega)) ?_) | (with_reducible refine cell_drew ?_) | (with_reducible refine cell_drewN ?_) | (with_reducible refine cell_kept (by assumption) ?_) | (simp [go_sem]; done) | (with_reducible refine cell_alloc ?_))) | (simp [go_sem, *]; done)) (first | (go_at_call 177; refine (W1.out _).mono ?_; rintro e w1 ⟨rfl, hb⟩; have hs : _ ≤ w1.heap.size := hb.size; (try simp at hs); obtain ⟨hc, hf, hl, hn, hm⟩ := behind hb) | (go_at_call 174; refine (WA.out _).mono ?_; rintro e w1 ⟨rfl, hb⟩; have hs : _ ≤ w1.heap.size := hb.size; (try simp at hs); obtain ⟨hc, hf, hl, hn, hm⟩ := behind hb))
      go_wp2
      have o_j0 : Own (w1) (w.heap.size + 1) 0 (.int .i64 0) := ownJ; obtain ⟨j0, f_j0⟩ := o_j0; have o_j1 : Own (w1) (w.heap.size + 1) 1 (.int .u64 0) := ownJ; obtain ⟨j1, f_j1⟩ := o_j1
      exact bodyPost_ret (v := .tuple #[.agg #[.int .i64 (hiW (sumW (v / d) 1)), .int .u64 (loW (sumW (v / d) 1))], .bool (sumOk (v / d) 1)]) (by simp [results, Try.results210, go_sem, j0, j1]) rfl ⟨(by first | (rw [S1.out, S2.out, U.out, C.out, O.out]; done) | (rw [S1.out, S2.out, U.out, C.out, O.out]; rfl) | (simp [S1.out, S2.out, U.out, C.out, O.out]; done)), belB⟩
  · have O := Lib.hid (show okD d = false from decide_eq_false d0)
    have U := Lib.hid (show upW v d = 0 from if_neg d0)
    have Q := Lib.hid (show quoW v d = 0 from if_neg d0)
    have R := Lib.hid (show remW v d = 0 from if_neg d0)
    clear d0
    go_enter Try.func210, Try.ntmps210
    go_wp2_with fail
    refine (WideDiv_any v d hv hd _).mono ?_
    rintro e w1 ⟨rfl, hb1⟩
    have hs1 : _ ≤ w1.heap.size := hb1.size
    try simp at hs1
    rw [Q.out, R.out]
    obtain ⟨hc1, hf1⟩ := old_kept hb1; have hz1 : w.heap.size + 1 < w1.heap.size := Nat.lt_of_lt_of_le (by first | omega | (simp; done) | (simp; omega)) hb1.size; have hz1a : w.heap.size < w1.heap.size := Nat.lt_of_lt_of_le (by first | omega | (simp; done) | (simp; omega)) hb1.size
    go_wp2
    exact bodyPost_ret (v := .tuple #[.agg #[.int .i64 (hiW 0), .int .u64 (loW 0)], .bool (okD d)]) (by simp [results, Try.results210, go_sem, hc1, hz1]) rfl ⟨(by first | (rw [U.out]; done) | (rw [U.out]; rfl) | (simp [U.out]; done)), belB⟩
end Go.Proofs.Ytmikjgbojknlnaa
