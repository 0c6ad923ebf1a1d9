/- The law of wide integers: at every input that can be read as data the call returns true. No conditions. -/
import Derived.Test.YtbpmkbilaeaneaaDrawC
import Derived.Test.YtbpmkbilaeaneaaWideR
import Derived.Test.YtbpmkbilaeaneaaNumW
import Derived.Test.YtbpmkbilaeaneaaWideM
import Derived.Test.YtbpmkbilaeaneaaWideF
import Derived.Deep.DeepCutAuto
import Derived.Deep.RegionHeld3
import Derived.Outline
import Derived.Test.YtbpmkbilaeaneaaMinMax
namespace Go.Proofs.Ytbpmkbilaeaneaa
open Go.ChangeShapes Go.WideShapes Go.ChangeAt Go.RowKit
set_option linter.unusedVariables false
set_option maxRecDepth 100000
set_option linter.unusedSimpArgs false
set_option maxHeartbeats 1000000

theorem Own2.old {w w1 : World} {b : Nat} {x y : Value} (h : Own2 w b x y) (hb : Below w.heap.size w w1) : Own2 w1 b x y := h.below hb h.lt
theorem Own2.alloc {w : World} {b : Nat} {x y : Value} (h : Own2 w b x y) (o : Obj) : Own2 (w.alloc o) b x y :=
  h.below ((Below.refl w.heap.size w).alloc (Nat.le_refl _) o) h.lt
theorem Own2.drew {w : World} {b : Nat} {x y : Value} (h : Own2 w b x y) : Own2 w.drew b x y := ⟨h.c0, h.c1, h.fr⟩
set_option maxHeartbeats 4000000 in
theorem law_FnWide (p q : Option Addr) (n cp m cq : Nat) (w : World) (hp : BytesAt w w.heap.size p n) (hq : BytesAt w w.heap.size q m) : Calls Try.prog 3 #[.slice p n cp, .slice q m cq] w fun e w' =>
    e = .returned (.bool true) ∧ Below w.heap.size w w' := by
  have np := hp.big
  have nq := hq.big
  by_cases long : 1048576 < n ∨ 1048576 < m
  · have E := Lib.hid (show decide (1048576 < n ∨ 1048576 < m) = true by simpa using long)
    clear long
    go_enter Try.func3, Try.ntmps3
    go_wp2_with fail
    refine (d8Long_any p q n cp m cq np nq _).mono ?_
    rintro e w0 ⟨rfl, rfl⟩
    rw [E.out]
    go_wp2
    go_ret
    exact ⟨rfl, (by repeat (first | exact Below.refl _ _ | refine Below.drew ?_ | refine Below.setCell ?_ (by first | omega | (simp; done) | (simp; omega)) _ | refine Below.alloc ?_ (by first | omega | (simp; done) | (simp; omega)) _ | refine Below.trans ?_ (Below.mono (by assumption) (by first | omega | (simp; done) | (simp; omega)))))⟩
  · have E := Lib.hid (show decide (1048576 < n ∨ 1048576 < m) = false by simpa using long)
    clear long
    go_enter Try.func3, Try.ntmps3
    go_wp2_with fail
    refine (d8Long_any p q n cp m cq np nq _).mono ?_
    rintro e w0 ⟨rfl, rfl⟩
    rw [E.out]
    go_wp2_with fail
    refine (E8Wide_any p n cp _ hp).mono ?_
    rintro e wa ⟨v, rfl, hv, hb1⟩
    have o1 := Own2.new wa (.int .i64 (hiW v)) (.int .u64 (loW v)) 26
    have B1 := hb1.alloc hb1.size (.cells #[.int .i64 (hiW v), .int .u64 (loW v)] 26)
    go_wp2_with fail
    refine (E8Number_any q m cq _ ((hq.below B1).mono B1.size)).mono ?_
    rintro e w2 ⟨d, rfl, hd, hb2⟩
    have B2 := B1.trans (hb2.mono B1.size)
    have o2 := o1.old hb2
    clear hb1 B1 o1
    obtain ⟨k0, k1, kf⟩ := id o2
    have lg := o2.lt
    go_wp2_with fail
    obtain ⟨ok, hok⟩ : ∃ ok, ok = okD d := ⟨_, rfl⟩
    have GT := okD_gt d
    have DV1 := Lib.hid (fun w => WideDiv_any v d hv hd w)
    rw [← hok] at DV1 GT
    have HK := Lib.hid hok
    clear hok
    refine (DV1.out _).mono ?_
    rintro e w3 ⟨rfl, hb3⟩
    have B3 := B2.trans (hb3.mono B2.size)
    have o3 := o2.old hb3
    clear k0 k1 kf lg
    have q3 := Own2.new w3 (.int .i64 (hiW (quoW v d))) (.int .u64 (loW (quoW v d))) 26
    have o4 := o3.alloc (.cells #[.int .i64 (hiW (quoW v d)), .int .u64 (loW (quoW v d))] 26)
    have B4 := B3.alloc B3.size (.cells #[.int .i64 (hiW (quoW v d)), .int .u64 (loW (quoW v d))] 26)
    go_wp2_with fail
    refine (d8At_any q m cq 0 (by omega) 62 (by unfold In64; omega) _ _ (hq.below B4)).mono ?_
    rintro e w5 ⟨s, rfl, ⟨s0, s1, s2⟩, rfl⟩
    have s3 := s2 (by omega)
    clear s1 s2
    obtain ⟨k0, k1, kf⟩ := id o4
    obtain ⟨z0, z1, zf⟩ := id q3
    obtain ⟨p0, p1⟩ := pow_small (k := (1 + s).toNat) (by omega)
    have n0 : 0 ≤ 1 + s := by omega
    have n1 : 1 + s ≤ 62 := by omega
    have SQ := shr_quo (v := v) n0 n1
    have WP := Lib.hid (show wrap64 (2 ^ (1 + s).toNat) = 2 ^ (1 + s).toNat from wrap64_self (by unfold In64; omega))
    obtain ⟨D, hD⟩ : ∃ D : Int, D = 2 ^ (1 + s).toNat := ⟨_, rfl⟩
    rw [← hD] at SQ p0 p1 WP
    have hDi : In64 D := by unfold In64; omega
    have DV := Lib.hid (fun w => WideDiv_any v D hv hDi w)
    have WD := Lib.hid (show wrap64 (2 ^ (1 + s).toNat) = D by rw [← hD]; exact WP.out)
    have S1 := Lib.hid SQ.1
    have S2 := SQ.2.1
    have S3 := Lib.hid SQ.2.2
    clear SQ p0 p1 WP hD hDi
    go_wp2_with fail
    rw [WD.out]
    refine (DV.out _).mono ?_
    rintro e w6 ⟨rfl, hb6⟩
    rw [S1.out, S3.out]
    have h64 : In64 (1 + s) := by unfold In64; omega
    have B6 := B4.trans (hb6.mono B4.size)
    have o6 := o4.old hb6
    have q6 := q3.old hb6
    have x6 := Own2.new w6 (.int .i64 (hiW (shrW v (1 + s)))) (.int .u64 (loW (shrW v (1 + s)))) 26
    have o7 := o6.alloc (.cells #[.int .i64 (hiW (shrW v (1 + s))), .int .u64 (loW (shrW v (1 + s)))] 26)
    have q7 := q6.alloc (.cells #[.int .i64 (hiW (shrW v (1 + s))), .int .u64 (loW (shrW v (1 + s)))] 26)
    have B7 := B6.alloc B6.size (.cells #[.int .i64 (hiW (shrW v (1 + s))), .int .u64 (loW (shrW v (1 + s)))] 26)
    have RN : decide (remW v D < 0) = false := decide_eq_false (by omega)
    have SH := Lib.hid (fun w => WideShift_any v (1 + s) hv h64 w)
    clear k0 k1 kf z0 z1 zf o2 B2 o3 B3 o4 q3 B4 hb6 o6 q6 B6 hb2 hb3 GT
    obtain ⟨k0, k1, kf⟩ := id o7
    obtain ⟨z0, z1, zf⟩ := id q7
    obtain ⟨x0, x1, xf⟩ := id x6
    go_wp2_with fail
    obtain ⟨hlt2, hlt3, hlt4, hlt5, hlt6, hlt7, hlt8, hlt9, hlt10, hlt11⟩ := below_add; go_region_held3 (fun w' => w'.cell? ⟨wa.heap.size, 0, none⟩ = some (.int .i64 (hiW v)) ∧ w'.cell? ⟨wa.heap.size, 1, none⟩ = some (.int .u64 (loW v)) ∧ w'.cell? ⟨w6.heap.size, 0, none⟩ = some (.int .i64 (hiW (shrW v (1 + s)))) ∧ w'.cell? ⟨w6.heap.size, 1, none⟩ = some (.int .u64 (loW (shrW v (1 + s))))) (first | (with_reducible exact ((And.imp (cell_kept (by assumption)) (And.imp (cell_kept (by assumption)) (And.imp (cell_kept (by assumption)) (cell_kept (by assumption))))) (by assumption))) | (with_reducible exact ((And.imp (cell_alloc) (And.imp (cell_alloc) (And.imp (cell_alloc) (cell_alloc)))) (by assumption))) | (with_reducible exact ((And.imp (fun h => cell_far (by first | (simp; done) | (simp; omega)) (cell_far (by first | (simp; done) | (simp; omega)) h)) (And.imp (fun h => cell_far (by first | (simp; done) | (simp; omega)) (cell_far (by first | (simp; done) | (simp; omega)) h)) (And.imp (fun h => cell_far (by first | (simp; done) | (simp; omega)) (cell_far (by first | (simp; done) | (simp; omega)) h)) (fun h => cell_far (by first | (simp; done) | (simp; omega)) (cell_far (by first | (simp; done) | (simp; omega)) h))))) (by assumption))) | (refine ⟨?_, ?_, ?_, ?_⟩ <;> repeat (first | (with_reducible assumption) | (with_reducible refine cell_far (by first | (simp; done) | (simp; omega)) ?_) | (with_reducible refine cell_drew ?_) | (with_reducible refine cell_drewN ?_) | (with_reducible refine cell_kept (by assumption) ?_) | (simp [go_sem]; done) | (with_reducible refine cell_alloc ?_))) | (simp [go_sem, *]; done)) ((go_at_call 11; refine (SH.out _).mono ?_; rintro e w1 ⟨rfl, hb⟩; have hs : _ ≤ w1.heap.size := hb.size; (try simp at hs); obtain ⟨hc, hf, hl, hn, hm⟩ := behind hb))
    have B8 := B7.drew.trans (hb.mono (by have h := B7.size; simp at h ⊢; omega))
    have o8 := o7.drew.old hb
    have q8 := q7.drew.old hb
    clear k0 k1 kf z0 z1 zf x0 x1 xf x6 o7 q7 B7 hc hf hl hn hm hlt2 hlt3 hlt4 hlt5 hlt6 hlt7 hlt8 hlt9 hlt10 hlt11 hb hs SH RN S1 S2 S3 WD DV n0 n1 s0 s3 h64
    obtain ⟨k0, k1, kf⟩ := id o8
    obtain ⟨z0, z1, zf⟩ := id q8
    go_upto_if 68 with fail
    go_cut [14, 15, 16, 17] (fun _ _ _ _ wx => wx.cell? ⟨wa.heap.size, 0, none⟩ = some (.int .i64 (hiW v)) ∧ wx.cell? ⟨wa.heap.size, 1, none⟩ = some (.int .u64 (loW v)) ∧ Below w0.heap.size w0 wx)
    case first =>
      by_cases d0 : 1 ≤ d
      · obtain rfl : ok = true := by rw [HK.out]; exact decide_eq_true d0
        have QV := Lib.hid (show quoW v d = v / d from if_pos d0)
        have RV : remW v d = v % d := if_pos d0
        have R0 : ¬ remW v d < 0 := by rw [RV]; have := (rem_in (v := v) d0).1; omega
        have R1 : ¬ d ≤ remW v d := by rw [RV]; have := (rem_in (v := v) d0).2; omega
        have R2 : decide (d ≤ remW v d) = false := decide_eq_false R1
        have RR := Lib.hid RV
        clear RV
        have hq' := quo_in hv d0
        have WI := Lib.hid (fun w => WideInt_any (quoW v d) (by rw [QV.out]; exact hq') w)
        by_cases f : In64 (v / d)
        · have I1 := Lib.hid (show intW (quoW v d) = v / d by rw [QV.out]; exact if_pos f)
          have I2 := Lib.hid (show okW (quoW v d) = true by rw [QV.out]; exact decide_eq_true f)
          have r64 : In64 (remW v d) := by unfold In64 at *; omega
          have WM := Lib.hid (fun w => WideMul_any (v / d) d f hd w)
          have WO := Lib.hid (fun w => WideOf_any (remW v d) r64 w)
          have WA := Lib.hid (fun w => WideAdd_any (v / d * d) (remW v d) (mul_in f hd) (by unfold In64 at r64; unfold InW; omega) w)
          have SU := back_in hv d0
          rw [← RR.out] at SU
          have SV := Lib.hid SU
          clear SU r64 d0 f hq'
          go_wp2_with fail
          refine (WI.out _).mono ?_
          rintro e w2 ⟨rfl, hb2⟩
          rw [I1.out, I2.out]
          have B9 := B8.trans (hb2.mono B8.size)
          have o9 := o8.old hb2
          clear k0 k1 kf z0 z1 zf B8 o8 q8 hb2
          obtain ⟨k0, k1, kf⟩ := id o9
          go_wp2_with fail
          refine (WM.out _).mono ?_
          rintro e w4 ⟨rfl, hb4⟩
          have B10 := B9.trans (hb4.mono B9.size)
          have o10 := o9.old hb4
          clear k0 k1 kf B9 o9 hb4
          obtain ⟨k0, k1, kf⟩ := id o10
          go_wp2_with fail
          refine (WO.out _).mono ?_
          rintro e w5 ⟨rfl, hb5⟩
          have B11 := B10.trans (hb5.mono B10.size)
          have o11 := o10.old hb5
          clear k0 k1 kf B10 o10 hb5
          obtain ⟨k0, k1, kf⟩ := id o11
          go_wp2_with fail
          refine (WA.out _).mono ?_
          rintro e w7 ⟨rfl, hb7⟩
          rw [SV.out.1, SV.out.2]
          have B12 := B11.trans (hb7.mono B11.size)
          have o12 := o11.old hb7
          clear k0 k1 kf B11 o11 hb7
          obtain ⟨k0, k1, kf⟩ := id o12
          have lg := o12.lt
          go_wp2
          go_meet
          exact ⟨(o12.alloc _).c0, (o12.alloc _).c1, B12.alloc B12.size _⟩
        · have I2 := Lib.hid (show okW (quoW v d) = false by rw [QV.out]; exact decide_eq_false f)
          clear d0 f hq'
          go_wp2_with fail
          refine (WI.out _).mono ?_
          rintro e w2 ⟨rfl, hb2⟩
          rw [I2.out]
          have B9 := B8.trans (hb2.mono B8.size)
          have o9 := o8.old hb2
          clear k0 k1 kf z0 z1 zf B8 o8 q8 hb2
          obtain ⟨k0, k1, kf⟩ := id o9
          go_wp2
          go_meet
          exact ⟨k0, k1, B9⟩
      · obtain rfl : ok = false := by rw [HK.out]; exact decide_eq_false d0
        go_wp2
        go_meet
        exact ⟨k0, k1, B8⟩
    case rest =>
      clear k0 k1 kf z0 z1 zf B8 o8 q8
      obtain ⟨k0, k1, B1⟩ := hcut
      obtain ⟨op, hop⟩ : ∃ op, op = oppOk v := ⟨_, rfl⟩
      have OP := Lib.hid (fun w => WideNeg_any v hv w)
      rw [← hop] at OP
      have HP := Lib.hid hop
      clear hop
      have lg := World.block_lt_of_cell? _ _ k0
      go_wp2_with fail
      refine (OP.out _).mono ?_
      rintro e w2 ⟨rfl, hb2⟩
      have B2 := B1.trans (hb2.mono B1.size)
      have j0 := cell_kept hb2 k0
      have j1 := cell_kept hb2 k1
      have l2 : wa.heap.size < w2.heap.size := World.block_lt_of_cell? _ _ j0
      clear k0 k1 B1 lg hb2
      go_upto_if 103 with fail
      go_cut [20, 21] (fun _ _ wx => wx.cell? ⟨wa.heap.size, 0, none⟩ = some (.int .i64 (hiW v)) ∧ wx.cell? ⟨wa.heap.size, 1, none⟩ = some (.int .u64 (loW v)) ∧ Below w0.heap.size w0 wx)
      case first =>
        cases op
        · go_wp2
          go_meet
          exact ⟨cell_alloc j0, cell_alloc j1, B2.alloc B2.size _⟩
        · have OS := opp_sum hv HP.out.symm
          have O1 := Lib.hid OS.1
          have O2 := Lib.hid (fun w => WideAdd_any v (-v) hv OS.2.1 w)
          have O3 := Lib.hid OS.2.2
          clear OS
          go_wp2_with fail
          rw [O1.out]
          refine (O2.out _).mono ?_
          rintro e w4 ⟨rfl, hb4⟩
          rw [O3.out.1, O3.out.2]
          have j2 := cell_kept hb4 (cell_alloc j0)
          have j3 := cell_kept hb4 (cell_alloc j1)
          have B3 := (B2.alloc B2.size _).trans (hb4.mono (B2.alloc B2.size _).size)
          clear hb4
          go_wp2
          go_meet
          exact ⟨cell_alloc j2, cell_alloc j3, B3.alloc B3.size _⟩
      case rest =>
        clear j0 j1 B2 l2
        obtain ⟨k0, k1, B1⟩ := hcut
        have WS := Lib.hid (fun w => WideSqrt_any v hv w)
        have CZ := cmp_zero v
        clear HP OP
        by_cases neg : v < 0
        · have S1 := Lib.hid (show sqW v = 0 from if_pos neg)
          have S2 := Lib.hid (show sqOk v = false by unfold sqOk; simp [neg])
          rw [S2.out] at CZ
          clear neg
          go_wp2_with fail
          refine (WS.out _).mono ?_
          rintro e w5 ⟨rfl, hb5⟩
          rw [S1.out, S2.out]
          have B5 := B1.trans (hb5.mono B1.size)
          have j0 := cell_kept hb5 k0
          have j1 := cell_kept hb5 k1
          clear k0 k1 B1 hb5
          go_wp2_with fail
          refine (WideCompare_any (hiW v) (loW v) 0 0 _).mono ?_
          rintro e w6 ⟨rfl, hb6⟩
          have B6 := B5.trans (hb6.mono B5.size)
          have k0 := cell_kept hb6 j0
          have k1 := cell_kept hb6 j1
          clear j0 j1 B5 hb6
          go_wp2
          go_ret
          exact ⟨rfl, B6⟩
        · obtain ⟨r, hr, r0, r1, r2⟩ := sq_between hv neg
          have S1 := Lib.hid hr
          have S2 := Lib.hid (show sqOk v = true by unfold sqOk; simp [neg])
          rw [S2.out] at CZ
          clear neg hr
          by_cases c : (r : Int) < 4611686018427387904
          · have c0 : decide ((r : Int) < 4611686018427387904) = true := decide_eq_true c
            obtain ⟨t, ht⟩ : ∃ t : Int, t = (r : Int) := ⟨_, rfl⟩
            have t0 : 0 ≤ t := by omega
            rw [← ht] at r0 r1 r2 c c0 S1
            clear ht
            have W1 := Lib.hid (show wrap64 t = t from wrap64_self (by unfold In64; omega))
            have W2 : IntKind.i64.wrap (t + 1) = t + 1 := by rw [IntKind.wrap_i64]; omega
            have M := Lib.hid (fun (x y : Int) (hx : In64 x) (hy : In64 y) w => WideMul_any x y hx hy w)
            have T1 := Lib.hid (show In64 t by unfold In64; omega)
            have T2 := Lib.hid (show In64 (t + 1) by unfold In64; omega)
            have c1 := cmp_le r0
            have c2 := cmp_gt r1
            have d1 : decide (cmpHL (hiW (t * t)) (loW (t * t)) (hiW v) (loW v) ≤ 0) = true := decide_eq_true c1
            have d2 : decide (0 < cmpHL (hiW ((t + 1) * (t + 1))) (loW ((t + 1) * (t + 1))) (hiW v) (loW v)) = true := decide_eq_true c2
            clear r0 r1 c1 c2
            go_wp2_with fail
            refine (WS.out _).mono ?_
            rintro e w5 ⟨rfl, hb5⟩
            rw [S1.out, S2.out]
            have B5 := B1.trans (hb5.mono B1.size)
            have j0 := cell_kept hb5 k0
            have j1 := cell_kept hb5 k1
            clear k0 k1 B1 hb5
            go_wp2_with fail
            refine (WideCompare_any (hiW v) (loW v) 0 0 _).mono ?_
            rintro e w6 ⟨rfl, hb6⟩
            have B6 := B5.trans (hb6.mono B5.size)
            have k0 := cell_kept hb6 j0
            have k1 := cell_kept hb6 j1
            clear j0 j1 B5 hb6
            go_wp2_with fail
            have b6 := B6.size
            obtain ⟨hlt2, hlt3, hlt4, hlt5, hlt6, hlt7, hlt8, hlt9, hlt10, hlt11⟩ := below_add; go_region_held3 (fun w' => w'.cell? ⟨wa.heap.size, 0, none⟩ = some (.int .i64 (hiW v)) ∧ w'.cell? ⟨wa.heap.size, 1, none⟩ = some (.int .u64 (loW v))) (first | (with_reducible exact ((And.imp (cell_kept (by assumption)) (cell_kept (by assumption))) (by assumption))) | (with_reducible exact ((And.imp (cell_alloc) (cell_alloc)) (by assumption))) | (with_reducible exact ((And.imp (fun h => cell_far (by first | (simp; done) | (simp; omega)) (cell_far (by first | (simp; done) | (simp; omega)) h)) (fun h => cell_far (by first | (simp; done) | (simp; omega)) (cell_far (by first | (simp; done) | (simp; omega)) h))) (by assumption))) | (refine ⟨?_, ?_⟩ <;> repeat (first | (with_reducible assumption) | (with_reducible refine cell_far (by first | (simp; done) | (simp; omega)) ?_) | (with_reducible refine cell_drew ?_) | (with_reducible refine cell_drewN ?_) | (with_reducible refine cell_kept (by assumption) ?_) | (simp [go_sem]; done) | (with_reducible refine cell_alloc ?_))) | (simp [go_sem, *]; done)) (first | (go_at_call 14; refine (M.out _ _ (by first | exact T1.out | exact T2.out) (by first | exact T1.out | exact T2.out) _).mono ?_; rintro e w1 ⟨rfl, hb⟩; have hs : _ ≤ w1.heap.size := hb.size; (try simp at hs); obtain ⟨hc, hf, hl, hn, hm⟩ := behind hb) | (go_at_call 18; refine (WideCompare_any _ _ _ _ _).mono ?_; rintro e w1 ⟨rfl, hb⟩; have hs : _ ≤ w1.heap.size := hb.size; (try simp at hs); obtain ⟨hc, hf, hl, hn, hm⟩ := behind hb))
            all_goals go_wp2
            all_goals go_ret
            all_goals exact ⟨rfl, by repeat (first | exact B6 | (with_reducible refine Below.drew ?_) | (refine Below.trans ?_ (Below.mono (by assumption) (by first | omega | (simp; omega)))))⟩
          · have c0 : decide ((r : Int) < 4611686018427387904) = false := decide_eq_false c
            go_wp2_with fail
            refine (WS.out _).mono ?_
            rintro e w5 ⟨rfl, hb5⟩
            rw [S1.out, S2.out]
            have B5 := B1.trans (hb5.mono B1.size)
            have j0 := cell_kept hb5 k0
            have j1 := cell_kept hb5 k1
            clear k0 k1 B1 hb5
            go_wp2_with fail
            refine (WideCompare_any (hiW v) (loW v) 0 0 _).mono ?_
            rintro e w6 ⟨rfl, hb6⟩
            have B6 := B5.trans (hb6.mono B5.size)
            have k0 := cell_kept hb6 j0
            have k1 := cell_kept hb6 j1
            clear j0 j1 B5 hb6
            go_wp2
            go_ret
            exact ⟨rfl, B6⟩
end Go.Proofs.Ytbpmkbilaeaneaa
