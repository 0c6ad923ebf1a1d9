/- The model's decimal text of a Wide, and the law. Conditions: a Wide; the library's table of powers of ten is laid. -/
import Derived.Test.YtobfdggdpaggeaaDoorFmW
import Derived.Test.YtobfdggdpaggeaaDoorWideH
import Derived.LoopN
import Derived.Handy
import Derived.OwnWalk
import Derived.Outline
namespace Go.Proofs.YtobfdggdpaggeaaDoor
open Go.ChangeShapes Go.WideShapes Go.ChangeAt Go.RowKit
set_option linter.unusedVariables false
set_option maxRecDepth 100000
set_option linter.unusedSimpArgs false
set_option maxHeartbeats 1000000

theorem ten_halves {M : Nat} (m1 : M ≤ 170141183460469231731687303715884105728) :
    hiW (M : Int) / 10 = hiW ((M / 10 : Nat) : Int) ∧ ldQ (hiW (M : Int) % 10) (loW (M : Int)) 10 64 = loW ((M / 10 : Nat) : Int) ∧ ldR (hiW (M : Int) % 10) (loW (M : Int)) 10 64 = ((M % 10 : Nat) : Int) := by
  have q : ((M / 10 : Nat) : Int) = (M : Int) / 10 := by omega
  have r : ((M % 10 : Nat) : Int) = (M : Int) % 10 := by omega
  rw [q, r]
  obtain ⟨e1, e2, e3, _, _, _⟩ := div_halves (m := (M : Int)) (d := 10) (by omega) (by omega) (by omega)
  refine ⟨e1.symm, ?_, ?_⟩
  · unfold ldQ; rw [ldN_end, e2]
  · unfold ldR; rw [ldN_end, e3]
theorem byte_of {d : Nat} (h : d ≤ 9) : ((UInt8.ofNat (48 + d)).toNat : Int) = 48 + (d : Int) := by
  rw [UInt8.toNat_ofNat']; omega
theorem sWideText_pos (v : Int) (hv : InW v) (s : ¬ v < 0) (w : World) : Calls Tryd.prog 10 #[.agg #[.int .i64 (hiW v), .int .u64 (loW v)]] w fun e w' =>
    e = .returned (.string ⟨(Lib.itoa v).toArray⟩) ∧ Below w.heap.size w w' := by
  have PL : Hid ((prep v.natAbs []).length ≤ 40) := Lib.hid (by
    have := prep_length v.natAbs [] 40 (by
      have t : (10 : Nat) ^ 40 = 10000000000000000000000000000000000000000 := by decide
      unfold InW at hv; omega)
    simpa using this)
  have MB : Hid (v.natAbs ≤ 170141183460469231731687303715884105728) := Lib.hid (by unfold InW at hv; omega)
  have E8 := Lib.hid (abs_pos hv s).1
  have EN := Lib.hid (show v = (v.natAbs : Int) by omega)
  have s0 : ¬ hiW v < 0 := fun h => s (hi_neg_iff.1 h)
  clear s
  go_enter Tryd.func10, Tryd.ntmps10
  go_wp2
  go_loopw [3, 4, 5] (fun a b c wr => ∃ (M : Nat) (o : List UInt8), a = .string ⟨o.toArray⟩ ∧ b = .int .u64 (hiW (M : Int)) ∧ c = .int .u64 (loW (M : Int)) ∧ M ≤ 170141183460469231731687303715884105728 ∧ Hid (prep M o = prep v.natAbs []) ∧ Hid (wr.cell? ⟨w.heap.size, 0, none⟩ = some (.int .i64 (hiW v))) ∧ Below w.heap.size w wr) (fun _ b c _ => (intOf b).toNat * 18446744073709551616 + (intOf c).toNat)
  case atStart => exact ⟨v.natAbs, [], rfl, by rw [wrapU, E8.out, ← EN.out], by rw [← EN.out], MB.out, Lib.hid rfl, Lib.hid celK, belB⟩
  case round =>
    obtain ⟨M, o, rfl, rfl, rfl, m1, R, C, hb⟩ := hrel
    have C0 := C.out
    have hsz := hb.size
    have ol : o.length ≤ 40 := by
      have a := prep_ge M o
      rw [R.out] at a
      have b := PL.out
      omega
    by_cases z : M = 0
    · have e1 : hiW (M : Int) = 0 := by subst z; decide
      have e2 : loW (M : Int) = 0 := by subst z; decide
      have RL : o = prep v.natAbs [] := by rw [← R.out]; subst z; exact (prep_zero o).symm
      by_cases vz : v.natAbs = 0
      · have LZ : o.isEmpty = true := by rw [RL, vz, prep_zero]; rfl
        have ITH := Lib.hid (show Lib.itoa v = [48] by rw [show v = 0 by omega]; exact itoa_zero)
        clear z R m1 RL ol vz
        go_wp2
        go_ret
        exact ⟨by rw [ITH.out]; rfl, hb⟩
      · have LZ : o.isEmpty = false := by
          have := prep_pos vz (acc := [])
          rw [← RL] at this
          cases o with
          | nil => simp at this
          | cons c r => rfl
        have ITH := Lib.hid (show Lib.itoa v = o by rw [itoa_prep v (by omega), RL, if_neg (by have := EN.out; omega)]; rfl)
        clear z R m1 RL ol vz
        go_wp2
        go_ret
        exact ⟨by rw [ITH.out]; rfl, hb⟩
    · have L := ten_halves m1
      have i0 : InU (hiW (M : Int)) := by unfold InU hiW B64; omega
      obtain ⟨Q, hQ⟩ : ∃ Q : Nat, Q = M / 10 := ⟨_, rfl⟩
      obtain ⟨d, hd⟩ : ∃ d : Nat, d = M % 10 := ⟨_, rfl⟩
      have D := Lib.hid (fun w => l02Divide_any (hiW (M : Int)) (loW (M : Int)) 10 i0 (loW_in _) (by omega) (by omega) w)
      rw [L.1, L.2.1, L.2.2, ← hQ, ← hd] at D
      have NX := prep_next z o
      rw [R.out, ← hQ, ← hd] at NX
      have CB := byte_of (d := d) (by omega)
      obtain ⟨bt, hbt⟩ : ∃ bt : UInt8, UInt8.ofNat (48 + d) = bt := ⟨_, rfl⟩
      rw [hbt] at NX CB
      clear hbt
      have NXH := Lib.hid NX.symm
      have d9 : d ≤ 9 := by omega
      have WU : IntKind.u8.wrap (48 + (d : Int)) = 48 + (d : Int) := by rw [IntKind.wrap_u8]; omega
      have CBH := Lib.hid CB
      clear CB
      have MS := Lib.hid (show Q < M by omega)
      have Q1 : Q ≤ 170141183460469231731687303715884105728 := by omega
      have HS : 0 < hiW (M : Int) ∨ 0 < loW (M : Int) := by unfold hiW loW B64; omega
      have n1 : ¬ 9223372036854775807 < 1 + o.length := by omega
      have hcv : (convert 42 9 (.slice (some ⟨wr.heap.size, 0, none⟩) 1 1)).run Tryd.prog (wr.alloc (.cells #[.int .u8 (48 + (d : Int))] 5)) = .ok (.string ⟨[bt].toArray⟩) (wr.alloc (.cells #[.int .u8 (48 + (d : Int))] 5)) :=
        run_convert_bytes_back _ _ _ 5 ⟨wr.heap.size, 0, none⟩ 1 [bt] Tryd.underlying42 Tryd.underlying5 Tryd.underlying9 (fun j hj => by
          have j0 : j = 0 := by simp at hj; omega
          subst j0
          rw [addr_add, World.cell?_alloc_new]
          simp only [List.getElem_cons_zero, CBH.out]; rfl)
      have CAT2 := Lib.hid (text_cat [bt] o)
      have MV : Hid ((hiW (Q : Int)).toNat * 18446744073709551616 + (loW (Q : Int)).toNat < (hiW (M : Int)).toNat * 18446744073709551616 + (loW (M : Int)).toNat) := Lib.hid (by have := MS.out; unfold hiW loW B64; omega)
      clear L NX R hQ hd z i0 ol
      by_cases c : 0 < hiW (M : Int)
      · clear HS
        go_wp2_with fail
        refine (D.out _).mono ?_
        rintro e wx ⟨rfl, rfl⟩
        go_wp2
        go_roundw
        case rel => exact ⟨Q, bt :: o, congrArg Value.string CAT2.out, rfl, rfl, Q1, NXH, Lib.hid celK, belB⟩
        case measure => exact MV.out
      · have c2 : 0 < loW (M : Int) := HS.resolve_left c
        clear HS
        go_wp2_with fail
        refine (D.out _).mono ?_
        rintro e wx ⟨rfl, rfl⟩
        go_wp2
        go_roundw
        case rel => exact ⟨Q, bt :: o, congrArg Value.string CAT2.out, rfl, rfl, Q1, NXH, Lib.hid celK, belB⟩
        case measure => exact MV.out
theorem sWideText_neg (v : Int) (hv : InW v) (s : v < 0) (w : World) : Calls Tryd.prog 10 #[.agg #[.int .i64 (hiW v), .int .u64 (loW v)]] w fun e w' =>
    e = .returned (.string ⟨(Lib.itoa v).toArray⟩) ∧ Below w.heap.size w w' := by
  have PL : Hid ((prep v.natAbs []).length ≤ 40) := Lib.hid (by
    have := prep_length v.natAbs [] 40 (by
      have t : (10 : Nat) ^ 40 = 10000000000000000000000000000000000000000 := by decide
      unfold InW at hv; omega)
    simpa using this)
  have MB : Hid (v.natAbs ≤ 170141183460469231731687303715884105728) := Lib.hid (by unfold InW at hv; omega)
  have E6 := Lib.hid (abs_neg hv s)
  have EN := Lib.hid (show -v = (v.natAbs : Int) by omega)
  have IT : Hid (Lib.itoa v = 45 :: prep v.natAbs []) := Lib.hid (by rw [itoa_prep v (by omega), if_pos s]; rfl)
  have PN : Hid (prep v.natAbs [] ≠ []) := Lib.hid (by
    intro k
    have := prep_pos (u := v.natAbs) (by omega) (acc := [])
    rw [k] at this; simp at this)
  have s0 : hiW v < 0 := hi_neg_iff.2 s
  clear s
  go_enter Tryd.func10, Tryd.ntmps10
  go_wp2_with fail
  refine (l02Minus_any v hv _).mono ?_
  rintro e w1 ⟨rfl, hb1⟩
  have hs1 : _ ≤ w1.heap.size := hb1.size
  try simp at hs1
  obtain ⟨hc1, hf1⟩ := old_kept hb1; have hz1 : w.heap.size < w1.heap.size := Nat.lt_of_lt_of_le (by first | omega | (simp; done) | (simp; omega)) hb1.size
  have k10 := hc1 (w.heap.size) 0 (by first | assumption | omega | (simp; done) | (simp; omega)); have k11 := hc1 (w.heap.size) 1 (by first | assumption | omega | (simp; done) | (simp; omega))
  go_wp2
  go_loopw [3, 4, 5] (fun a b c wr => ∃ (M : Nat) (o : List UInt8), a = .string ⟨o.toArray⟩ ∧ b = .int .u64 (hiW (M : Int)) ∧ c = .int .u64 (loW (M : Int)) ∧ M ≤ 170141183460469231731687303715884105728 ∧ Hid (prep M o = prep v.natAbs []) ∧ Hid (wr.cell? ⟨w.heap.size, 0, none⟩ = some (.int .i64 (hiW v))) ∧ Below w.heap.size w wr) (fun _ b c _ => (intOf b).toNat * 18446744073709551616 + (intOf c).toNat)
  case atStart => exact ⟨v.natAbs, [], rfl, by rw [wrapU, E6.out.1, EN.out], by rw [E6.out.2, EN.out], MB.out, Lib.hid rfl, Lib.hid celK, belB⟩
  case round =>
    obtain ⟨M, o, rfl, rfl, rfl, m1, R, C, hb⟩ := hrel
    have C0 := C.out
    have hsz := hb.size
    have ol : o.length ≤ 40 := by
      have a := prep_ge M o
      rw [R.out] at a
      have b := PL.out
      omega
    by_cases z : M = 0
    · have e1 : hiW (M : Int) = 0 := by subst z; decide
      have e2 : loW (M : Int) = 0 := by subst z; decide
      have RL : o = prep v.natAbs [] := by rw [← R.out]; subst z; exact (prep_zero o).symm
      have LZ : o.isEmpty = false := by
        cases o with
        | nil => exact absurd RL.symm PN.out
        | cons c r => rfl
      have ITH := Lib.hid (show Lib.itoa v = 45 :: o by rw [IT.out, RL])
      have n1 : ¬ 9223372036854775807 < 1 + o.length := by omega
      clear z R m1 RL ol
      go_wp2
      go_ret
      exact ⟨by rw [ITH.out]; rfl, hb⟩
    · have L := ten_halves m1
      have i0 : InU (hiW (M : Int)) := by unfold InU hiW B64; omega
      obtain ⟨Q, hQ⟩ : ∃ Q : Nat, Q = M / 10 := ⟨_, rfl⟩
      obtain ⟨d, hd⟩ : ∃ d : Nat, d = M % 10 := ⟨_, rfl⟩
      have D := Lib.hid (fun w => l02Divide_any (hiW (M : Int)) (loW (M : Int)) 10 i0 (loW_in _) (by omega) (by omega) w)
      rw [L.1, L.2.1, L.2.2, ← hQ, ← hd] at D
      have NX := prep_next z o
      rw [R.out, ← hQ, ← hd] at NX
      have CB := byte_of (d := d) (by omega)
      obtain ⟨bt, hbt⟩ : ∃ bt : UInt8, UInt8.ofNat (48 + d) = bt := ⟨_, rfl⟩
      rw [hbt] at NX CB
      clear hbt
      have NXH := Lib.hid NX.symm
      have d9 : d ≤ 9 := by omega
      have WU : IntKind.u8.wrap (48 + (d : Int)) = 48 + (d : Int) := by rw [IntKind.wrap_u8]; omega
      have CBH := Lib.hid CB
      clear CB
      have MS := Lib.hid (show Q < M by omega)
      have Q1 : Q ≤ 170141183460469231731687303715884105728 := by omega
      have HS : 0 < hiW (M : Int) ∨ 0 < loW (M : Int) := by unfold hiW loW B64; omega
      have n1 : ¬ 9223372036854775807 < 1 + o.length := by omega
      have hcv : (convert 42 9 (.slice (some ⟨wr.heap.size, 0, none⟩) 1 1)).run Tryd.prog (wr.alloc (.cells #[.int .u8 (48 + (d : Int))] 5)) = .ok (.string ⟨[bt].toArray⟩) (wr.alloc (.cells #[.int .u8 (48 + (d : Int))] 5)) :=
        run_convert_bytes_back _ _ _ 5 ⟨wr.heap.size, 0, none⟩ 1 [bt] Tryd.underlying42 Tryd.underlying5 Tryd.underlying9 (fun j hj => by
          have j0 : j = 0 := by simp at hj; omega
          subst j0
          rw [addr_add, World.cell?_alloc_new]
          simp only [List.getElem_cons_zero, CBH.out]; rfl)
      have CAT2 := Lib.hid (text_cat [bt] o)
      have MV : Hid ((hiW (Q : Int)).toNat * 18446744073709551616 + (loW (Q : Int)).toNat < (hiW (M : Int)).toNat * 18446744073709551616 + (loW (M : Int)).toNat) := Lib.hid (by have := MS.out; unfold hiW loW B64; omega)
      clear L NX R hQ hd z i0 ol
      by_cases c : 0 < hiW (M : Int)
      · clear HS
        go_wp2_with fail
        refine (D.out _).mono ?_
        rintro e wx ⟨rfl, rfl⟩
        go_wp2
        go_roundw
        case rel => exact ⟨Q, bt :: o, congrArg Value.string CAT2.out, rfl, rfl, Q1, NXH, Lib.hid celK, belB⟩
        case measure => exact MV.out
      · have c2 : 0 < loW (M : Int) := HS.resolve_left c
        clear HS
        go_wp2_with fail
        refine (D.out _).mono ?_
        rintro e wx ⟨rfl, rfl⟩
        go_wp2
        go_roundw
        case rel => exact ⟨Q, bt :: o, congrArg Value.string CAT2.out, rfl, rfl, Q1, NXH, Lib.hid celK, belB⟩
        case measure => exact MV.out
theorem sWideText_any (v : Int) (hv : InW v) (w : World) : Calls Tryd.prog 10 #[.agg #[.int .i64 (hiW v), .int .u64 (loW v)]] w fun e w' =>
    e = .returned (.string ⟨(Lib.itoa v).toArray⟩) ∧ Below w.heap.size w w' := by
  by_cases s : v < 0
  · exact sWideText_neg v hv s w
  · exact sWideText_pos v hv s w
end Go.Proofs.YtobfdggdpaggeaaDoor
