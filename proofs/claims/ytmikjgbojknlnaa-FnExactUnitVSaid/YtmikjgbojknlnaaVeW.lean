/- Contract of lengths of vectors in the model. Conditions: numbers are int64. -/
import Derived.Test.YtmikjgbojknlnaaVeV
import Derived.Test.YtmikjgbojknlnaaIvLd
import Derived.Test.YtmikjgbojknlnaaLat
import Derived.Deep.RegionHeld3
import Derived.Deep.DeepCutAuto
import Derived.Outline
namespace Go.Proofs.Ytmikjgbojknlnaa
open Go.ChangeShapes Go.WideShapes Go.ChangeAt Go.RowKit
set_option linter.unusedVariables false
set_option maxRecDepth 100000
set_option linter.unusedSimpArgs false
set_option maxHeartbeats 1000000
theorem root_any (v : Int) (h0 : 0 ≤ v) (h : v < 21267647932558653966460912964485513216) (w : World) : Calls Try.prog 127 #[.agg #[.int .i64 (hiW v), .int .u64 (loW v)]] w fun e w' =>
    e = .returned (.int .u64 (sqW v)) ∧ Below w.heap.size w w' := by
  obtain ⟨m, rfl⟩ : ∃ m : Nat, v = m := ⟨v.toNat, by omega⟩
  have e : sqW (m : Int) = (rootW m : Int) := by unfold sqW; rw [if_neg (by omega)]; simp
  rw [e]
  exact l02Root_any m (by omega) w
set_option maxHeartbeats 32000000 in
theorem sNormV_any (x y z : Iv) (w : World) : Calls Try.prog 67 #[.agg #[.int .i64 x.1, .int .i64 x.2, .int .i64 y.1, .int .i64 y.2, .int .i64 z.1, .int .i64 z.2]] w fun e w' =>
    e = .returned (.agg #[.int .i64 (nrmI x y z).1, .int .i64 (nrmI x y z).2]) ∧ Below w.heap.size w w' := by
  have WX := Lib.hid (fun w => sIsWhole_any x w)
  have WY := Lib.hid (fun w => sIsWhole_any y w)
  have WZ := Lib.hid (fun w => sIsWhole_any z w)
  by_cases bx : Bnd x
  · by_cases by' : Bnd y
    · by_cases bz : Bnd z
      · rw [bnd_yes bx] at WX
        rw [bnd_yes by'] at WY
        rw [bnd_yes bz] at WZ
        have EW := fun h => (nrm_eq x y z).trans (nrm_over (p := absI x) (q := absI y) (r := absI z) h)
        have EI := nrm_in bx by' bz
        obtain ⟨p1, p2⟩ := absF_in x
        obtain ⟨q1, q2⟩ := absF_in y
        obtain ⟨r1, r2⟩ := absF_in z
        clear bx by' bz
        have AX := Lib.hid (fun w => l10Ends_any x w)
        have AY := Lib.hid (fun w => l10Ends_any y w)
        have AZ := Lib.hid (fun w => l10Ends_any z w)
        generalize absI x = p at *
        generalize absI y = q at *
        generalize absI z = r at *
        have S1 := Lib.hid (fun w => l10Sum_any p.1 q.1 r.1 p1 q1 r1 w)
        have S2 := Lib.hid (fun w => l10Sum_any p.2 q.2 r.2 p2 q2 r2 w)
        have n1 := s3_nonneg p.1 q.1 r.1
        have n2 := s3_nonneg p.2 q.2 r.2
        have b1 := (s3_in p1 q1 r1).2.1
        have b2 := (s3_in p2 q2 r2).2.1
        generalize s3 p.1 q.1 r.1 = v1 at *
        generalize s3 p.2 q.2 r.2 = v2 at *
        clear p1 p2 q1 q2 r1 r2
        have R1 := Lib.hid (root_any v1 n1 b1)
        have R2 := Lib.hid (root_any v2 n2 b2)
        obtain ⟨m1', _, _⟩ := sqW_spec n1 b1
        have m1b := sqW_in b1
        obtain ⟨m2', _, _⟩ := sqW_spec n2 b2
        have m2b := sqW_in b2
        have hu : sqU v2 = if sqW v2 * sqW v2 = v2 then sqW v2 else sqW v2 + 1 := rfl
        generalize sqW v1 = m1 at *
        generalize sqW v2 = m2 at *
        have M := Lib.hid (fun w => l02Mul_any m2 m2 (by unfold In64; omega) (by unfold In64; omega) w)
        have W1 : IntKind.i64.wrap m1 = m1 := by rw [IntKind.wrap_i64]; omega
        have W2 : wrap64 m1 = m1 := by rw [wrap64_def]; omega
        have W3 : IntKind.i64.wrap m2 = m2 := by rw [IntKind.wrap_i64]; omega
        have W4 : wrap64 m2 = m2 := by rw [wrap64_def]; omega
        have W5 : IntKind.i64.wrap (m2 + 1) = m2 + 1 := by rw [IntKind.wrap_i64]; omega
        have W6 : wrap64 (m2 + 1) = m2 + 1 := by rw [wrap64_def]; omega
        clear n1 n2 b1 b2 m1' m1b m2' m2b
        by_cases e : m2 * m2 = v2
        · have U := hu.trans (if_pos e)
          rw [U] at EW EI
          by_cases o : 1152921504606846976 ≤ m2
          · have E := Lib.hid (EW o)
            clear EW EI U hu
            have e0 : (hiW (m2 * m2) == hiW v2) = true := by simp [e]
            have e1 : (loW (m2 * m2) == loW v2) = true := by simp [e]
            clear e
            go_enter Try.func67, Try.ntmps67
            go_wp2_with fail
            refine (WX.out _).mono ?_
            rintro e w1 ⟨rfl, hb1⟩
            have hs1 : _ ≤ w1.heap.size := hb1.size
            try simp at hs1
            have o_a10 : Own (w1) (w.heap.size) 0 (.int .i64 x.1) := ownS; have a10 := o_a10.1; have f_a10 := o_a10.2; have o_a11 : Own (w1) (w.heap.size) 1 (.int .i64 x.2) := ownS; have a11 := o_a11.1; have f_a11 := o_a11.2; have o_a12 : Own (w1) (w.heap.size) 2 (.int .i64 y.1) := ownS; have a12 := o_a12.1; have f_a12 := o_a12.2; have o_a13 : Own (w1) (w.heap.size) 3 (.int .i64 y.2) := ownS; have a13 := o_a13.1; have f_a13 := o_a13.2; have o_a14 : Own (w1) (w.heap.size) 4 (.int .i64 z.1) := ownS; have a14 := o_a14.1; have f_a14 := o_a14.2; have o_a15 : Own (w1) (w.heap.size) 5 (.int .i64 z.2) := ownS; have a15 := o_a15.1; have f_a15 := o_a15.2
            have o_r10 : Own (w1) (w.heap.size + 1) 0 (.int .i64 0) := ownS; have r10 := o_r10.1; have f_r10 := o_r10.2; have o_r11 : Own (w1) (w.heap.size + 1) 1 (.int .i64 0) := ownS; have r11 := o_r11.1; have f_r11 := o_r11.2
            go_wp2_with fail
            refine (WY.out _).mono ?_
            rintro e w2 ⟨rfl, hb2⟩
            have hs2 : _ ≤ w2.heap.size := hb2.size
            try simp at hs2
            have o_a20 : Own (w2) (w.heap.size) 0 (.int .i64 x.1) := ownS; have a20 := o_a20.1; have f_a20 := o_a20.2; have o_a21 : Own (w2) (w.heap.size) 1 (.int .i64 x.2) := ownS; have a21 := o_a21.1; have f_a21 := o_a21.2; have o_a22 : Own (w2) (w.heap.size) 2 (.int .i64 y.1) := ownS; have a22 := o_a22.1; have f_a22 := o_a22.2; have o_a23 : Own (w2) (w.heap.size) 3 (.int .i64 y.2) := ownS; have a23 := o_a23.1; have f_a23 := o_a23.2; have o_a24 : Own (w2) (w.heap.size) 4 (.int .i64 z.1) := ownS; have a24 := o_a24.1; have f_a24 := o_a24.2; have o_a25 : Own (w2) (w.heap.size) 5 (.int .i64 z.2) := ownS; have a25 := o_a25.1; have f_a25 := o_a25.2
            have o_r20 : Own (w2) (w.heap.size + 1) 0 (.int .i64 0) := ownS; have r20 := o_r20.1; have f_r20 := o_r20.2; have o_r21 : Own (w2) (w.heap.size + 1) 1 (.int .i64 0) := ownS; have r21 := o_r21.1; have f_r21 := o_r21.2
            go_wp2_with fail
            refine (WZ.out _).mono ?_
            rintro e w3 ⟨rfl, hb3⟩
            have hs3 : _ ≤ w3.heap.size := hb3.size
            try simp at hs3
            have o_a30 : Own (w3) (w.heap.size) 0 (.int .i64 x.1) := ownS; have a30 := o_a30.1; have f_a30 := o_a30.2; have o_a31 : Own (w3) (w.heap.size) 1 (.int .i64 x.2) := ownS; have a31 := o_a31.1; have f_a31 := o_a31.2; have o_a32 : Own (w3) (w.heap.size) 2 (.int .i64 y.1) := ownS; have a32 := o_a32.1; have f_a32 := o_a32.2; have o_a33 : Own (w3) (w.heap.size) 3 (.int .i64 y.2) := ownS; have a33 := o_a33.1; have f_a33 := o_a33.2; have o_a34 : Own (w3) (w.heap.size) 4 (.int .i64 z.1) := ownS; have a34 := o_a34.1; have f_a34 := o_a34.2; have o_a35 : Own (w3) (w.heap.size) 5 (.int .i64 z.2) := ownS; have a35 := o_a35.1; have f_a35 := o_a35.2
            have o_r30 : Own (w3) (w.heap.size + 1) 0 (.int .i64 0) := ownS; have r30 := o_r30.1; have f_r30 := o_r30.2; have o_r31 : Own (w3) (w.heap.size + 1) 1 (.int .i64 0) := ownS; have r31 := o_r31.1; have f_r31 := o_r31.2
            go_wp2_with fail
            refine (AX.out _).mono ?_
            rintro e w4 ⟨rfl, hb4⟩
            have hs4 : _ ≤ w4.heap.size := hb4.size
            try simp at hs4
            have o_a40 : Own (w4) (w.heap.size) 0 (.int .i64 x.1) := ownS; have a40 := o_a40.1; have f_a40 := o_a40.2; have o_a41 : Own (w4) (w.heap.size) 1 (.int .i64 x.2) := ownS; have a41 := o_a41.1; have f_a41 := o_a41.2; have o_a42 : Own (w4) (w.heap.size) 2 (.int .i64 y.1) := ownS; have a42 := o_a42.1; have f_a42 := o_a42.2; have o_a43 : Own (w4) (w.heap.size) 3 (.int .i64 y.2) := ownS; have a43 := o_a43.1; have f_a43 := o_a43.2; have o_a44 : Own (w4) (w.heap.size) 4 (.int .i64 z.1) := ownS; have a44 := o_a44.1; have f_a44 := o_a44.2; have o_a45 : Own (w4) (w.heap.size) 5 (.int .i64 z.2) := ownS; have a45 := o_a45.1; have f_a45 := o_a45.2
            have o_r40 : Own (w4) (w.heap.size + 1) 0 (.int .i64 0) := ownS; have r40 := o_r40.1; have f_r40 := o_r40.2; have o_r41 : Own (w4) (w.heap.size + 1) 1 (.int .i64 0) := ownS; have r41 := o_r41.1; have f_r41 := o_r41.2
            go_wp2_with fail
            refine (AY.out _).mono ?_
            rintro e w5 ⟨rfl, hb5⟩
            have hs5 : _ ≤ w5.heap.size := hb5.size
            try simp at hs5
            have o_a50 : Own (w5) (w.heap.size) 0 (.int .i64 x.1) := ownS; have a50 := o_a50.1; have f_a50 := o_a50.2; have o_a51 : Own (w5) (w.heap.size) 1 (.int .i64 x.2) := ownS; have a51 := o_a51.1; have f_a51 := o_a51.2; have o_a52 : Own (w5) (w.heap.size) 2 (.int .i64 y.1) := ownS; have a52 := o_a52.1; have f_a52 := o_a52.2; have o_a53 : Own (w5) (w.heap.size) 3 (.int .i64 y.2) := ownS; have a53 := o_a53.1; have f_a53 := o_a53.2; have o_a54 : Own (w5) (w.heap.size) 4 (.int .i64 z.1) := ownS; have a54 := o_a54.1; have f_a54 := o_a54.2; have o_a55 : Own (w5) (w.heap.size) 5 (.int .i64 z.2) := ownS; have a55 := o_a55.1; have f_a55 := o_a55.2
            have o_r50 : Own (w5) (w.heap.size + 1) 0 (.int .i64 0) := ownS; have r50 := o_r50.1; have f_r50 := o_r50.2; have o_r51 : Own (w5) (w.heap.size + 1) 1 (.int .i64 0) := ownS; have r51 := o_r51.1; have f_r51 := o_r51.2
            go_wp2_with fail
            refine (AZ.out _).mono ?_
            rintro e w6 ⟨rfl, hb6⟩
            have hs6 : _ ≤ w6.heap.size := hb6.size
            try simp at hs6
            have o_a60 : Own (w6) (w.heap.size) 0 (.int .i64 x.1) := ownS; have a60 := o_a60.1; have f_a60 := o_a60.2; have o_a61 : Own (w6) (w.heap.size) 1 (.int .i64 x.2) := ownS; have a61 := o_a61.1; have f_a61 := o_a61.2; have o_a62 : Own (w6) (w.heap.size) 2 (.int .i64 y.1) := ownS; have a62 := o_a62.1; have f_a62 := o_a62.2; have o_a63 : Own (w6) (w.heap.size) 3 (.int .i64 y.2) := ownS; have a63 := o_a63.1; have f_a63 := o_a63.2; have o_a64 : Own (w6) (w.heap.size) 4 (.int .i64 z.1) := ownS; have a64 := o_a64.1; have f_a64 := o_a64.2; have o_a65 : Own (w6) (w.heap.size) 5 (.int .i64 z.2) := ownS; have a65 := o_a65.1; have f_a65 := o_a65.2
            have o_r60 : Own (w6) (w.heap.size + 1) 0 (.int .i64 0) := ownS; have r60 := o_r60.1; have f_r60 := o_r60.2; have o_r61 : Own (w6) (w.heap.size + 1) 1 (.int .i64 0) := ownS; have r61 := o_r61.1; have f_r61 := o_r61.2
            go_wp2_with fail
            refine (S1.out _).mono ?_
            rintro e w7 ⟨rfl, hb7⟩
            have hs7 : _ ≤ w7.heap.size := hb7.size
            try simp at hs7
            go_wp2_with fail
            refine (R1.out _).mono ?_
            rintro e w8 ⟨rfl, hb8⟩
            have hs8 : _ ≤ w8.heap.size := hb8.size
            try simp at hs8
            have o_r80 : Own (w8) (w.heap.size + 1) 0 (.int .i64 0) := ownS; have r80 := o_r80.1; have f_r80 := o_r80.2; have o_r81 : Own (w8) (w.heap.size + 1) 1 (.int .i64 0) := ownS; have r81 := o_r81.1; have f_r81 := o_r81.2
            go_wp2_with fail
            refine (S2.out _).mono ?_
            rintro e w9 ⟨rfl, hb9⟩
            have hs9 : _ ≤ w9.heap.size := hb9.size
            try simp at hs9
            have o_r90 : Own (w9) (w.heap.size + 1) 0 (.int .i64 0) := ownS; have r90 := o_r90.1; have f_r90 := o_r90.2; have o_r91 : Own (w9) (w.heap.size + 1) 1 (.int .i64 0) := ownS; have r91 := o_r91.1; have f_r91 := o_r91.2
            go_wp2_with fail
            refine (R2.out _).mono ?_
            rintro e w10 ⟨rfl, hb10⟩
            have hs10 : _ ≤ w10.heap.size := hb10.size
            try simp at hs10
            have o_r100 : Own (w10) (w.heap.size + 1) 0 (.int .i64 0) := ownS; have r100 := o_r100.1; have f_r100 := o_r100.2; have o_r101 : Own (w10) (w.heap.size + 1) 1 (.int .i64 0) := ownS; have r101 := o_r101.1; have f_r101 := o_r101.2
            have o_s100 : Own (w10) (w9.heap.size) 0 (.int .i64 (hiW v2)) := ownS; have s100 := o_s100.1; have f_s100 := o_s100.2; have o_s101 : Own (w10) (w9.heap.size) 1 (.int .u64 (loW v2)) := ownS; have s101 := o_s101.1; have f_s101 := o_s101.2
            have ls := World.block_lt_of_cell? _ _ r90
            have ls' : ¬ w9.heap.size = w.heap.size + 1 := by omega
            have ls2 : ¬ w.heap.size + 1 = w9.heap.size := by omega
            go_wp2_with fail
            obtain ⟨hlt2, hlt3, hlt4, hlt5, hlt6, hlt7, hlt8, hlt9, hlt10, hlt11⟩ := below_add; go_region_held3 (fun w' => w'.cell? ⟨w9.heap.size, 0, none⟩ = some (.int .i64 (hiW v2)) ∧ w'.cell? ⟨w9.heap.size, 1, none⟩ = some (.int .u64 (loW v2)) ∧ w'.cell? ⟨w.heap.size + 1, 0, none⟩ = some (.int .i64 0) ∧ w'.cell? ⟨w.heap.size + 1, 1, none⟩ = some (.int .i64 0)) (first | (with_reducible exact ((And.imp (cell_kept (by assumption)) (And.imp (cell_kept (by assumption)) (And.imp (cell_kept (by assumption)) (cell_kept (by assumption))))) (by assumption))) | (with_reducible exact ((And.imp (cell_alloc) (And.imp (cell_alloc) (And.imp (cell_alloc) (cell_alloc)))) (by assumption))) | (with_reducible exact ((And.imp (fun h => cell_far (by first | (simp; done) | (simp; omega) | (dsimp only; omega)) (cell_far (by first | (simp; done) | (simp; omega) | (dsimp only; omega)) h)) (And.imp (fun h => cell_far (by first | (simp; done) | (simp; omega) | (dsimp only; omega)) (cell_far (by first | (simp; done) | (simp; omega) | (dsimp only; omega)) h)) (And.imp (fun h => cell_far (by first | (simp; done) | (simp; omega) | (dsimp only; omega)) (cell_far (by first | (simp; done) | (simp; omega) | (dsimp only; omega)) h)) (fun h => cell_far (by first | (simp; done) | (simp; omega) | (dsimp only; omega)) (cell_far (by first | (simp; done) | (simp; omega) | (dsimp only; omega)) h))))) (by assumption))) | (refine ⟨?_, ?_, ?_, ?_⟩ <;> repeat (first | (with_reducible assumption) | (with_reducible refine cell_far (by first | (simp; done) | (simp; omega) | (dsimp only; omega)) ?_) | (with_reducible refine cell_drew ?_) | (with_reducible refine cell_drewN ?_) | (with_reducible refine cell_kept (by assumption) ?_) | (simp [go_sem]; done) | (with_reducible refine cell_alloc ?_))) | (simp [go_sem, *]; done)) ((go_at_call 129; refine (M.out _).mono ?_; rintro e w1 ⟨rfl, hb⟩; have hs : _ ≤ w1.heap.size := hb.size; (try simp at hs); obtain ⟨hc, hf, hl, hn, hm⟩ := behind hb))
            go_wp2_with fail
            refine (sWhole_any _).mono ?_
            rintro e w12 ⟨rfl, hb12⟩
            have hs12 : _ ≤ w12.heap.size := hb12.size
            try simp at hs12
            have o_r120 : Own (w12) (w.heap.size + 1) 0 (.int .i64 0) := ownS; have r120 := o_r120.1; have f_r120 := o_r120.2; have o_r121 : Own (w12) (w.heap.size + 1) 1 (.int .i64 0) := ownS; have r121 := o_r121.1; have f_r121 := o_r121.2
            go_wp2
            exact bodyPost_ret (v := .agg #[.int .i64 (-1152921504606846976), .int .i64 1152921504606846976]) (by simp [results, Try.results67, go_sem, r120, r121]) rfl ⟨by rw [E.out]; rfl, belS⟩
          · have E := Lib.hid (EI o)
            clear EW EI U hu
            have e0 : (hiW (m2 * m2) == hiW v2) = true := by simp [e]
            have e1 : (loW (m2 * m2) == loW v2) = true := by simp [e]
            clear e
            go_enter Try.func67, Try.ntmps67
            go_wp2_with fail
            refine (WX.out _).mono ?_
            rintro e w1 ⟨rfl, hb1⟩
            have hs1 : _ ≤ w1.heap.size := hb1.size
            try simp at hs1
            have o_a10 : Own (w1) (w.heap.size) 0 (.int .i64 x.1) := ownS; have a10 := o_a10.1; have f_a10 := o_a10.2; have o_a11 : Own (w1) (w.heap.size) 1 (.int .i64 x.2) := ownS; have a11 := o_a11.1; have f_a11 := o_a11.2; have o_a12 : Own (w1) (w.heap.size) 2 (.int .i64 y.1) := ownS; have a12 := o_a12.1; have f_a12 := o_a12.2; have o_a13 : Own (w1) (w.heap.size) 3 (.int .i64 y.2) := ownS; have a13 := o_a13.1; have f_a13 := o_a13.2; have o_a14 : Own (w1) (w.heap.size) 4 (.int .i64 z.1) := ownS; have a14 := o_a14.1; have f_a14 := o_a14.2; have o_a15 : Own (w1) (w.heap.size) 5 (.int .i64 z.2) := ownS; have a15 := o_a15.1; have f_a15 := o_a15.2
            have o_r10 : Own (w1) (w.heap.size + 1) 0 (.int .i64 0) := ownS; have r10 := o_r10.1; have f_r10 := o_r10.2; have o_r11 : Own (w1) (w.heap.size + 1) 1 (.int .i64 0) := ownS; have r11 := o_r11.1; have f_r11 := o_r11.2
            go_wp2_with fail
            refine (WY.out _).mono ?_
            rintro e w2 ⟨rfl, hb2⟩
            have hs2 : _ ≤ w2.heap.size := hb2.size
            try simp at hs2
            have o_a20 : Own (w2) (w.heap.size) 0 (.int .i64 x.1) := ownS; have a20 := o_a20.1; have f_a20 := o_a20.2; have o_a21 : Own (w2) (w.heap.size) 1 (.int .i64 x.2) := ownS; have a21 := o_a21.1; have f_a21 := o_a21.2; have o_a22 : Own (w2) (w.heap.size) 2 (.int .i64 y.1) := ownS; have a22 := o_a22.1; have f_a22 := o_a22.2; have o_a23 : Own (w2) (w.heap.size) 3 (.int .i64 y.2) := ownS; have a23 := o_a23.1; have f_a23 := o_a23.2; have o_a24 : Own (w2) (w.heap.size) 4 (.int .i64 z.1) := ownS; have a24 := o_a24.1; have f_a24 := o_a24.2; have o_a25 : Own (w2) (w.heap.size) 5 (.int .i64 z.2) := ownS; have a25 := o_a25.1; have f_a25 := o_a25.2
            have o_r20 : Own (w2) (w.heap.size + 1) 0 (.int .i64 0) := ownS; have r20 := o_r20.1; have f_r20 := o_r20.2; have o_r21 : Own (w2) (w.heap.size + 1) 1 (.int .i64 0) := ownS; have r21 := o_r21.1; have f_r21 := o_r21.2
            go_wp2_with fail
            refine (WZ.out _).mono ?_
            rintro e w3 ⟨rfl, hb3⟩
            have hs3 : _ ≤ w3.heap.size := hb3.size
            try simp at hs3
            have o_a30 : Own (w3) (w.heap.size) 0 (.int .i64 x.1) := ownS; have a30 := o_a30.1; have f_a30 := o_a30.2; have o_a31 : Own (w3) (w.heap.size) 1 (.int .i64 x.2) := ownS; have a31 := o_a31.1; have f_a31 := o_a31.2; have o_a32 : Own (w3) (w.heap.size) 2 (.int .i64 y.1) := ownS; have a32 := o_a32.1; have f_a32 := o_a32.2; have o_a33 : Own (w3) (w.heap.size) 3 (.int .i64 y.2) := ownS; have a33 := o_a33.1; have f_a33 := o_a33.2; have o_a34 : Own (w3) (w.heap.size) 4 (.int .i64 z.1) := ownS; have a34 := o_a34.1; have f_a34 := o_a34.2; have o_a35 : Own (w3) (w.heap.size) 5 (.int .i64 z.2) := ownS; have a35 := o_a35.1; have f_a35 := o_a35.2
            have o_r30 : Own (w3) (w.heap.size + 1) 0 (.int .i64 0) := ownS; have r30 := o_r30.1; have f_r30 := o_r30.2; have o_r31 : Own (w3) (w.heap.size + 1) 1 (.int .i64 0) := ownS; have r31 := o_r31.1; have f_r31 := o_r31.2
            go_wp2_with fail
            refine (AX.out _).mono ?_
            rintro e w4 ⟨rfl, hb4⟩
            have hs4 : _ ≤ w4.heap.size := hb4.size
            try simp at hs4
            have o_a40 : Own (w4) (w.heap.size) 0 (.int .i64 x.1) := ownS; have a40 := o_a40.1; have f_a40 := o_a40.2; have o_a41 : Own (w4) (w.heap.size) 1 (.int .i64 x.2) := ownS; have a41 := o_a41.1; have f_a41 := o_a41.2; have o_a42 : Own (w4) (w.heap.size) 2 (.int .i64 y.1) := ownS; have a42 := o_a42.1; have f_a42 := o_a42.2; have o_a43 : Own (w4) (w.heap.size) 3 (.int .i64 y.2) := ownS; have a43 := o_a43.1; have f_a43 := o_a43.2; have o_a44 : Own (w4) (w.heap.size) 4 (.int .i64 z.1) := ownS; have a44 := o_a44.1; have f_a44 := o_a44.2; have o_a45 : Own (w4) (w.heap.size) 5 (.int .i64 z.2) := ownS; have a45 := o_a45.1; have f_a45 := o_a45.2
            have o_r40 : Own (w4) (w.heap.size + 1) 0 (.int .i64 0) := ownS; have r40 := o_r40.1; have f_r40 := o_r40.2; have o_r41 : Own (w4) (w.heap.size + 1) 1 (.int .i64 0) := ownS; have r41 := o_r41.1; have f_r41 := o_r41.2
            go_wp2_with fail
            refine (AY.out _).mono ?_
            rintro e w5 ⟨rfl, hb5⟩
            have hs5 : _ ≤ w5.heap.size := hb5.size
            try simp at hs5
            have o_a50 : Own (w5) (w.heap.size) 0 (.int .i64 x.1) := ownS; have a50 := o_a50.1; have f_a50 := o_a50.2; have o_a51 : Own (w5) (w.heap.size) 1 (.int .i64 x.2) := ownS; have a51 := o_a51.1; have f_a51 := o_a51.2; have o_a52 : Own (w5) (w.heap.size) 2 (.int .i64 y.1) := ownS; have a52 := o_a52.1; have f_a52 := o_a52.2; have o_a53 : Own (w5) (w.heap.size) 3 (.int .i64 y.2) := ownS; have a53 := o_a53.1; have f_a53 := o_a53.2; have o_a54 : Own (w5) (w.heap.size) 4 (.int .i64 z.1) := ownS; have a54 := o_a54.1; have f_a54 := o_a54.2; have o_a55 : Own (w5) (w.heap.size) 5 (.int .i64 z.2) := ownS; have a55 := o_a55.1; have f_a55 := o_a55.2
            have o_r50 : Own (w5) (w.heap.size + 1) 0 (.int .i64 0) := ownS; have r50 := o_r50.1; have f_r50 := o_r50.2; have o_r51 : Own (w5) (w.heap.size + 1) 1 (.int .i64 0) := ownS; have r51 := o_r51.1; have f_r51 := o_r51.2
            go_wp2_with fail
            refine (AZ.out _).mono ?_
            rintro e w6 ⟨rfl, hb6⟩
            have hs6 : _ ≤ w6.heap.size := hb6.size
            try simp at hs6
            have o_a60 : Own (w6) (w.heap.size) 0 (.int .i64 x.1) := ownS; have a60 := o_a60.1; have f_a60 := o_a60.2; have o_a61 : Own (w6) (w.heap.size) 1 (.int .i64 x.2) := ownS; have a61 := o_a61.1; have f_a61 := o_a61.2; have o_a62 : Own (w6) (w.heap.size) 2 (.int .i64 y.1) := ownS; have a62 := o_a62.1; have f_a62 := o_a62.2; have o_a63 : Own (w6) (w.heap.size) 3 (.int .i64 y.2) := ownS; have a63 := o_a63.1; have f_a63 := o_a63.2; have o_a64 : Own (w6) (w.heap.size) 4 (.int .i64 z.1) := ownS; have a64 := o_a64.1; have f_a64 := o_a64.2; have o_a65 : Own (w6) (w.heap.size) 5 (.int .i64 z.2) := ownS; have a65 := o_a65.1; have f_a65 := o_a65.2
            have o_r60 : Own (w6) (w.heap.size + 1) 0 (.int .i64 0) := ownS; have r60 := o_r60.1; have f_r60 := o_r60.2; have o_r61 : Own (w6) (w.heap.size + 1) 1 (.int .i64 0) := ownS; have r61 := o_r61.1; have f_r61 := o_r61.2
            go_wp2_with fail
            refine (S1.out _).mono ?_
            rintro e w7 ⟨rfl, hb7⟩
            have hs7 : _ ≤ w7.heap.size := hb7.size
            try simp at hs7
            go_wp2_with fail
            refine (R1.out _).mono ?_
            rintro e w8 ⟨rfl, hb8⟩
            have hs8 : _ ≤ w8.heap.size := hb8.size
            try simp at hs8
            have o_r80 : Own (w8) (w.heap.size + 1) 0 (.int .i64 0) := ownS; have r80 := o_r80.1; have f_r80 := o_r80.2; have o_r81 : Own (w8) (w.heap.size + 1) 1 (.int .i64 0) := ownS; have r81 := o_r81.1; have f_r81 := o_r81.2
            go_wp2_with fail
            refine (S2.out _).mono ?_
            rintro e w9 ⟨rfl, hb9⟩
            have hs9 : _ ≤ w9.heap.size := hb9.size
            try simp at hs9
            have o_r90 : Own (w9) (w.heap.size + 1) 0 (.int .i64 0) := ownS; have r90 := o_r90.1; have f_r90 := o_r90.2; have o_r91 : Own (w9) (w.heap.size + 1) 1 (.int .i64 0) := ownS; have r91 := o_r91.1; have f_r91 := o_r91.2
            go_wp2_with fail
            refine (R2.out _).mono ?_
            rintro e w10 ⟨rfl, hb10⟩
            have hs10 : _ ≤ w10.heap.size := hb10.size
            try simp at hs10
            have o_r100 : Own (w10) (w.heap.size + 1) 0 (.int .i64 0) := ownS; have r100 := o_r100.1; have f_r100 := o_r100.2; have o_r101 : Own (w10) (w.heap.size + 1) 1 (.int .i64 0) := ownS; have r101 := o_r101.1; have f_r101 := o_r101.2
            have o_s100 : Own (w10) (w9.heap.size) 0 (.int .i64 (hiW v2)) := ownS; have s100 := o_s100.1; have f_s100 := o_s100.2; have o_s101 : Own (w10) (w9.heap.size) 1 (.int .u64 (loW v2)) := ownS; have s101 := o_s101.1; have f_s101 := o_s101.2
            have ls := World.block_lt_of_cell? _ _ r90
            have ls' : ¬ w9.heap.size = w.heap.size + 1 := by omega
            have ls2 : ¬ w.heap.size + 1 = w9.heap.size := by omega
            go_wp2_with fail
            obtain ⟨hlt2, hlt3, hlt4, hlt5, hlt6, hlt7, hlt8, hlt9, hlt10, hlt11⟩ := below_add; go_region_held3 (fun w' => w'.cell? ⟨w9.heap.size, 0, none⟩ = some (.int .i64 (hiW v2)) ∧ w'.cell? ⟨w9.heap.size, 1, none⟩ = some (.int .u64 (loW v2)) ∧ w'.cell? ⟨w.heap.size + 1, 0, none⟩ = some (.int .i64 0) ∧ w'.cell? ⟨w.heap.size + 1, 1, none⟩ = some (.int .i64 0)) (first | (with_reducible exact ((And.imp (cell_kept (by assumption)) (And.imp (cell_kept (by assumption)) (And.imp (cell_kept (by assumption)) (cell_kept (by assumption))))) (by assumption))) | (with_reducible exact ((And.imp (cell_alloc) (And.imp (cell_alloc) (And.imp (cell_alloc) (cell_alloc)))) (by assumption))) | (with_reducible exact ((And.imp (fun h => cell_far (by first | (simp; done) | (simp; omega) | (dsimp only; omega)) (cell_far (by first | (simp; done) | (simp; omega) | (dsimp only; omega)) h)) (And.imp (fun h => cell_far (by first | (simp; done) | (simp; omega) | (dsimp only; omega)) (cell_far (by first | (simp; done) | (simp; omega) | (dsimp only; omega)) h)) (And.imp (fun h => cell_far (by first | (simp; done) | (simp; omega) | (dsimp only; omega)) (cell_far (by first | (simp; done) | (simp; omega) | (dsimp only; omega)) h)) (fun h => cell_far (by first | (simp; done) | (simp; omega) | (dsimp only; omega)) (cell_far (by first | (simp; done) | (simp; omega) | (dsimp only; omega)) h))))) (by assumption))) | (refine ⟨?_, ?_, ?_, ?_⟩ <;> repeat (first | (with_reducible assumption) | (with_reducible refine cell_far (by first | (simp; done) | (simp; omega) | (dsimp only; omega)) ?_) | (with_reducible refine cell_drew ?_) | (with_reducible refine cell_drewN ?_) | (with_reducible refine cell_kept (by assumption) ?_) | (simp [go_sem]; done) | (with_reducible refine cell_alloc ?_))) | (simp [go_sem, *]; done)) ((go_at_call 129; refine (M.out _).mono ?_; rintro e w1 ⟨rfl, hb⟩; have hs : _ ≤ w1.heap.size := hb.size; (try simp at hs); obtain ⟨hc, hf, hl, hn, hm⟩ := behind hb))
            have o_r110 : Own (w1) (w.heap.size + 1) 0 (.int .i64 0) := ownS; have r110 := o_r110.1; have f_r110 := o_r110.2; have o_r111 : Own (w1) (w.heap.size + 1) 1 (.int .i64 0) := ownS; have r111 := o_r111.1; have f_r111 := o_r111.2
            go_wp2
            exact bodyPost_ret (v := .agg #[.int .i64 m1, .int .i64 (m2)]) (by simp [results, Try.results67, go_sem, r110, r111]) rfl ⟨by rw [E.out], belS⟩
        · by_cases f : hiW (m2 * m2) = hiW v2
          · have U := hu.trans (if_neg e)
            rw [U] at EW EI
            by_cases o : 1152921504606846976 ≤ m2 + 1
            · have E := Lib.hid (EW o)
              clear EW EI U hu
              have e0 : (hiW (m2 * m2) == hiW v2) = true := by simpa using f
              have e1 : (loW (m2 * m2) == loW v2) = false := by rw [Bool.eq_false_iff]; intro g; exact e (same_hl f (by simpa using g))
              clear e f
              go_enter Try.func67, Try.ntmps67
              go_wp2_with fail
              refine (WX.out _).mono ?_
              rintro e w1 ⟨rfl, hb1⟩
              have hs1 : _ ≤ w1.heap.size := hb1.size
              try simp at hs1
              have o_a10 : Own (w1) (w.heap.size) 0 (.int .i64 x.1) := ownS; have a10 := o_a10.1; have f_a10 := o_a10.2; have o_a11 : Own (w1) (w.heap.size) 1 (.int .i64 x.2) := ownS; have a11 := o_a11.1; have f_a11 := o_a11.2; have o_a12 : Own (w1) (w.heap.size) 2 (.int .i64 y.1) := ownS; have a12 := o_a12.1; have f_a12 := o_a12.2; have o_a13 : Own (w1) (w.heap.size) 3 (.int .i64 y.2) := ownS; have a13 := o_a13.1; have f_a13 := o_a13.2; have o_a14 : Own (w1) (w.heap.size) 4 (.int .i64 z.1) := ownS; have a14 := o_a14.1; have f_a14 := o_a14.2; have o_a15 : Own (w1) (w.heap.size) 5 (.int .i64 z.2) := ownS; have a15 := o_a15.1; have f_a15 := o_a15.2
              have o_r10 : Own (w1) (w.heap.size + 1) 0 (.int .i64 0) := ownS; have r10 := o_r10.1; have f_r10 := o_r10.2; have o_r11 : Own (w1) (w.heap.size + 1) 1 (.int .i64 0) := ownS; have r11 := o_r11.1; have f_r11 := o_r11.2
              go_wp2_with fail
              refine (WY.out _).mono ?_
              rintro e w2 ⟨rfl, hb2⟩
              have hs2 : _ ≤ w2.heap.size := hb2.size
              try simp at hs2
              have o_a20 : Own (w2) (w.heap.size) 0 (.int .i64 x.1) := ownS; have a20 := o_a20.1; have f_a20 := o_a20.2; have o_a21 : Own (w2) (w.heap.size) 1 (.int .i64 x.2) := ownS; have a21 := o_a21.1; have f_a21 := o_a21.2; have o_a22 : Own (w2) (w.heap.size) 2 (.int .i64 y.1) := ownS; have a22 := o_a22.1; have f_a22 := o_a22.2; have o_a23 : Own (w2) (w.heap.size) 3 (.int .i64 y.2) := ownS; have a23 := o_a23.1; have f_a23 := o_a23.2; have o_a24 : Own (w2) (w.heap.size) 4 (.int .i64 z.1) := ownS; have a24 := o_a24.1; have f_a24 := o_a24.2; have o_a25 : Own (w2) (w.heap.size) 5 (.int .i64 z.2) := ownS; have a25 := o_a25.1; have f_a25 := o_a25.2
              have o_r20 : Own (w2) (w.heap.size + 1) 0 (.int .i64 0) := ownS; have r20 := o_r20.1; have f_r20 := o_r20.2; have o_r21 : Own (w2) (w.heap.size + 1) 1 (.int .i64 0) := ownS; have r21 := o_r21.1; have f_r21 := o_r21.2
              go_wp2_with fail
              refine (WZ.out _).mono ?_
              rintro e w3 ⟨rfl, hb3⟩
              have hs3 : _ ≤ w3.heap.size := hb3.size
              try simp at hs3
              have o_a30 : Own (w3) (w.heap.size) 0 (.int .i64 x.1) := ownS; have a30 := o_a30.1; have f_a30 := o_a30.2; have o_a31 : Own (w3) (w.heap.size) 1 (.int .i64 x.2) := ownS; have a31 := o_a31.1; have f_a31 := o_a31.2; have o_a32 : Own (w3) (w.heap.size) 2 (.int .i64 y.1) := ownS; have a32 := o_a32.1; have f_a32 := o_a32.2; have o_a33 : Own (w3) (w.heap.size) 3 (.int .i64 y.2) := ownS; have a33 := o_a33.1; have f_a33 := o_a33.2; have o_a34 : Own (w3) (w.heap.size) 4 (.int .i64 z.1) := ownS; have a34 := o_a34.1; have f_a34 := o_a34.2; have o_a35 : Own (w3) (w.heap.size) 5 (.int .i64 z.2) := ownS; have a35 := o_a35.1; have f_a35 := o_a35.2
              have o_r30 : Own (w3) (w.heap.size + 1) 0 (.int .i64 0) := ownS; have r30 := o_r30.1; have f_r30 := o_r30.2; have o_r31 : Own (w3) (w.heap.size + 1) 1 (.int .i64 0) := ownS; have r31 := o_r31.1; have f_r31 := o_r31.2
              go_wp2_with fail
              refine (AX.out _).mono ?_
              rintro e w4 ⟨rfl, hb4⟩
              have hs4 : _ ≤ w4.heap.size := hb4.size
              try simp at hs4
              have o_a40 : Own (w4) (w.heap.size) 0 (.int .i64 x.1) := ownS; have a40 := o_a40.1; have f_a40 := o_a40.2; have o_a41 : Own (w4) (w.heap.size) 1 (.int .i64 x.2) := ownS; have a41 := o_a41.1; have f_a41 := o_a41.2; have o_a42 : Own (w4) (w.heap.size) 2 (.int .i64 y.1) := ownS; have a42 := o_a42.1; have f_a42 := o_a42.2; have o_a43 : Own (w4) (w.heap.size) 3 (.int .i64 y.2) := ownS; have a43 := o_a43.1; have f_a43 := o_a43.2; have o_a44 : Own (w4) (w.heap.size) 4 (.int .i64 z.1) := ownS; have a44 := o_a44.1; have f_a44 := o_a44.2; have o_a45 : Own (w4) (w.heap.size) 5 (.int .i64 z.2) := ownS; have a45 := o_a45.1; have f_a45 := o_a45.2
              have o_r40 : Own (w4) (w.heap.size + 1) 0 (.int .i64 0) := ownS; have r40 := o_r40.1; have f_r40 := o_r40.2; have o_r41 : Own (w4) (w.heap.size + 1) 1 (.int .i64 0) := ownS; have r41 := o_r41.1; have f_r41 := o_r41.2
              go_wp2_with fail
              refine (AY.out _).mono ?_
              rintro e w5 ⟨rfl, hb5⟩
              have hs5 : _ ≤ w5.heap.size := hb5.size
              try simp at hs5
              have o_a50 : Own (w5) (w.heap.size) 0 (.int .i64 x.1) := ownS; have a50 := o_a50.1; have f_a50 := o_a50.2; have o_a51 : Own (w5) (w.heap.size) 1 (.int .i64 x.2) := ownS; have a51 := o_a51.1; have f_a51 := o_a51.2; have o_a52 : Own (w5) (w.heap.size) 2 (.int .i64 y.1) := ownS; have a52 := o_a52.1; have f_a52 := o_a52.2; have o_a53 : Own (w5) (w.heap.size) 3 (.int .i64 y.2) := ownS; have a53 := o_a53.1; have f_a53 := o_a53.2; have o_a54 : Own (w5) (w.heap.size) 4 (.int .i64 z.1) := ownS; have a54 := o_a54.1; have f_a54 := o_a54.2; have o_a55 : Own (w5) (w.heap.size) 5 (.int .i64 z.2) := ownS; have a55 := o_a55.1; have f_a55 := o_a55.2
              have o_r50 : Own (w5) (w.heap.size + 1) 0 (.int .i64 0) := ownS; have r50 := o_r50.1; have f_r50 := o_r50.2; have o_r51 : Own (w5) (w.heap.size + 1) 1 (.int .i64 0) := ownS; have r51 := o_r51.1; have f_r51 := o_r51.2
              go_wp2_with fail
              refine (AZ.out _).mono ?_
              rintro e w6 ⟨rfl, hb6⟩
              have hs6 : _ ≤ w6.heap.size := hb6.size
              try simp at hs6
              have o_a60 : Own (w6) (w.heap.size) 0 (.int .i64 x.1) := ownS; have a60 := o_a60.1; have f_a60 := o_a60.2; have o_a61 : Own (w6) (w.heap.size) 1 (.int .i64 x.2) := ownS; have a61 := o_a61.1; have f_a61 := o_a61.2; have o_a62 : Own (w6) (w.heap.size) 2 (.int .i64 y.1) := ownS; have a62 := o_a62.1; have f_a62 := o_a62.2; have o_a63 : Own (w6) (w.heap.size) 3 (.int .i64 y.2) := ownS; have a63 := o_a63.1; have f_a63 := o_a63.2; have o_a64 : Own (w6) (w.heap.size) 4 (.int .i64 z.1) := ownS; have a64 := o_a64.1; have f_a64 := o_a64.2; have o_a65 : Own (w6) (w.heap.size) 5 (.int .i64 z.2) := ownS; have a65 := o_a65.1; have f_a65 := o_a65.2
              have o_r60 : Own (w6) (w.heap.size + 1) 0 (.int .i64 0) := ownS; have r60 := o_r60.1; have f_r60 := o_r60.2; have o_r61 : Own (w6) (w.heap.size + 1) 1 (.int .i64 0) := ownS; have r61 := o_r61.1; have f_r61 := o_r61.2
              go_wp2_with fail
              refine (S1.out _).mono ?_
              rintro e w7 ⟨rfl, hb7⟩
              have hs7 : _ ≤ w7.heap.size := hb7.size
              try simp at hs7
              go_wp2_with fail
              refine (R1.out _).mono ?_
              rintro e w8 ⟨rfl, hb8⟩
              have hs8 : _ ≤ w8.heap.size := hb8.size
              try simp at hs8
              have o_r80 : Own (w8) (w.heap.size + 1) 0 (.int .i64 0) := ownS; have r80 := o_r80.1; have f_r80 := o_r80.2; have o_r81 : Own (w8) (w.heap.size + 1) 1 (.int .i64 0) := ownS; have r81 := o_r81.1; have f_r81 := o_r81.2
              go_wp2_with fail
              refine (S2.out _).mono ?_
              rintro e w9 ⟨rfl, hb9⟩
              have hs9 : _ ≤ w9.heap.size := hb9.size
              try simp at hs9
              have o_r90 : Own (w9) (w.heap.size + 1) 0 (.int .i64 0) := ownS; have r90 := o_r90.1; have f_r90 := o_r90.2; have o_r91 : Own (w9) (w.heap.size + 1) 1 (.int .i64 0) := ownS; have r91 := o_r91.1; have f_r91 := o_r91.2
              go_wp2_with fail
              refine (R2.out _).mono ?_
              rintro e w10 ⟨rfl, hb10⟩
              have hs10 : _ ≤ w10.heap.size := hb10.size
              try simp at hs10
              have o_r100 : Own (w10) (w.heap.size + 1) 0 (.int .i64 0) := ownS; have r100 := o_r100.1; have f_r100 := o_r100.2; have o_r101 : Own (w10) (w.heap.size + 1) 1 (.int .i64 0) := ownS; have r101 := o_r101.1; have f_r101 := o_r101.2
              have o_s100 : Own (w10) (w9.heap.size) 0 (.int .i64 (hiW v2)) := ownS; have s100 := o_s100.1; have f_s100 := o_s100.2; have o_s101 : Own (w10) (w9.heap.size) 1 (.int .u64 (loW v2)) := ownS; have s101 := o_s101.1; have f_s101 := o_s101.2
              have ls := World.block_lt_of_cell? _ _ r90
              have ls' : ¬ w9.heap.size = w.heap.size + 1 := by omega
              have ls2 : ¬ w.heap.size + 1 = w9.heap.size := by omega
              go_wp2_with fail
              obtain ⟨hlt2, hlt3, hlt4, hlt5, hlt6, hlt7, hlt8, hlt9, hlt10, hlt11⟩ := below_add; go_region_held3 (fun w' => w'.cell? ⟨w9.heap.size, 0, none⟩ = some (.int .i64 (hiW v2)) ∧ w'.cell? ⟨w9.heap.size, 1, none⟩ = some (.int .u64 (loW v2)) ∧ w'.cell? ⟨w.heap.size + 1, 0, none⟩ = some (.int .i64 0) ∧ w'.cell? ⟨w.heap.size + 1, 1, none⟩ = some (.int .i64 0)) (first | (with_reducible exact ((And.imp (cell_kept (by assumption)) (And.imp (cell_kept (by assumption)) (And.imp (cell_kept (by assumption)) (cell_kept (by assumption))))) (by assumption))) | (with_reducible exact ((And.imp (cell_alloc) (And.imp (cell_alloc) (And.imp (cell_alloc) (cell_alloc)))) (by assumption))) | (with_reducible exact ((And.imp (fun h => cell_far (by first | (simp; done) | (simp; omega) | (dsimp only; omega)) (cell_far (by first | (simp; done) | (simp; omega) | (dsimp only; omega)) h)) (And.imp (fun h => cell_far (by first | (simp; done) | (simp; omega) | (dsimp only; omega)) (cell_far (by first | (simp; done) | (simp; omega) | (dsimp only; omega)) h)) (And.imp (fun h => cell_far (by first | (simp; done) | (simp; omega) | (dsimp only; omega)) (cell_far (by first | (simp; done) | (simp; omega) | (dsimp only; omega)) h)) (fun h => cell_far (by first | (simp; done) | (simp; omega) | (dsimp only; omega)) (cell_far (by first | (simp; done) | (simp; omega) | (dsimp only; omega)) h))))) (by assumption))) | (refine ⟨?_, ?_, ?_, ?_⟩ <;> repeat (first | (with_reducible assumption) | (with_reducible refine cell_far (by first | (simp; done) | (simp; omega) | (dsimp only; omega)) ?_) | (with_reducible refine cell_drew ?_) | (with_reducible refine cell_drewN ?_) | (with_reducible refine cell_kept (by assumption) ?_) | (simp [go_sem]; done) | (with_reducible refine cell_alloc ?_))) | (simp [go_sem, *]; done)) ((go_at_call 129; refine (M.out _).mono ?_; rintro e w1 ⟨rfl, hb⟩; have hs : _ ≤ w1.heap.size := hb.size; (try simp at hs); obtain ⟨hc, hf, hl, hn, hm⟩ := behind hb))
              go_wp2_with fail
              refine (sWhole_any _).mono ?_
              rintro e w12 ⟨rfl, hb12⟩
              have hs12 : _ ≤ w12.heap.size := hb12.size
              try simp at hs12
              have o_r120 : Own (w12) (w.heap.size + 1) 0 (.int .i64 0) := ownS; have r120 := o_r120.1; have f_r120 := o_r120.2; have o_r121 : Own (w12) (w.heap.size + 1) 1 (.int .i64 0) := ownS; have r121 := o_r121.1; have f_r121 := o_r121.2
              go_wp2
              exact bodyPost_ret (v := .agg #[.int .i64 (-1152921504606846976), .int .i64 1152921504606846976]) (by simp [results, Try.results67, go_sem, r120, r121]) rfl ⟨by rw [E.out]; rfl, belS⟩
            · have E := Lib.hid (EI o)
              clear EW EI U hu
              have e0 : (hiW (m2 * m2) == hiW v2) = true := by simpa using f
              have e1 : (loW (m2 * m2) == loW v2) = false := by rw [Bool.eq_false_iff]; intro g; exact e (same_hl f (by simpa using g))
              clear e f
              go_enter Try.func67, Try.ntmps67
              go_wp2_with fail
              refine (WX.out _).mono ?_
              rintro e w1 ⟨rfl, hb1⟩
              have hs1 : _ ≤ w1.heap.size := hb1.size
              try simp at hs1
              have o_a10 : Own (w1) (w.heap.size) 0 (.int .i64 x.1) := ownS; have a10 := o_a10.1; have f_a10 := o_a10.2; have o_a11 : Own (w1) (w.heap.size) 1 (.int .i64 x.2) := ownS; have a11 := o_a11.1; have f_a11 := o_a11.2; have o_a12 : Own (w1) (w.heap.size) 2 (.int .i64 y.1) := ownS; have a12 := o_a12.1; have f_a12 := o_a12.2; have o_a13 : Own (w1) (w.heap.size) 3 (.int .i64 y.2) := ownS; have a13 := o_a13.1; have f_a13 := o_a13.2; have o_a14 : Own (w1) (w.heap.size) 4 (.int .i64 z.1) := ownS; have a14 := o_a14.1; have f_a14 := o_a14.2; have o_a15 : Own (w1) (w.heap.size) 5 (.int .i64 z.2) := ownS; have a15 := o_a15.1; have f_a15 := o_a15.2
              have o_r10 : Own (w1) (w.heap.size + 1) 0 (.int .i64 0) := ownS; have r10 := o_r10.1; have f_r10 := o_r10.2; have o_r11 : Own (w1) (w.heap.size + 1) 1 (.int .i64 0) := ownS; have r11 := o_r11.1; have f_r11 := o_r11.2
              go_wp2_with fail
              refine (WY.out _).mono ?_
              rintro e w2 ⟨rfl, hb2⟩
              have hs2 : _ ≤ w2.heap.size := hb2.size
              try simp at hs2
              have o_a20 : Own (w2) (w.heap.size) 0 (.int .i64 x.1) := ownS; have a20 := o_a20.1; have f_a20 := o_a20.2; have o_a21 : Own (w2) (w.heap.size) 1 (.int .i64 x.2) := ownS; have a21 := o_a21.1; have f_a21 := o_a21.2; have o_a22 : Own (w2) (w.heap.size) 2 (.int .i64 y.1) := ownS; have a22 := o_a22.1; have f_a22 := o_a22.2; have o_a23 : Own (w2) (w.heap.size) 3 (.int .i64 y.2) := ownS; have a23 := o_a23.1; have f_a23 := o_a23.2; have o_a24 : Own (w2) (w.heap.size) 4 (.int .i64 z.1) := ownS; have a24 := o_a24.1; have f_a24 := o_a24.2; have o_a25 : Own (w2) (w.heap.size) 5 (.int .i64 z.2) := ownS; have a25 := o_a25.1; have f_a25 := o_a25.2
              have o_r20 : Own (w2) (w.heap.size + 1) 0 (.int .i64 0) := ownS; have r20 := o_r20.1; have f_r20 := o_r20.2; have o_r21 : Own (w2) (w.heap.size + 1) 1 (.int .i64 0) := ownS; have r21 := o_r21.1; have f_r21 := o_r21.2
              go_wp2_with fail
              refine (WZ.out _).mono ?_
              rintro e w3 ⟨rfl, hb3⟩
              have hs3 : _ ≤ w3.heap.size := hb3.size
              try simp at hs3
              have o_a30 : Own (w3) (w.heap.size) 0 (.int .i64 x.1) := ownS; have a30 := o_a30.1; have f_a30 := o_a30.2; have o_a31 : Own (w3) (w.heap.size) 1 (.int .i64 x.2) := ownS; have a31 := o_a31.1; have f_a31 := o_a31.2; have o_a32 : Own (w3) (w.heap.size) 2 (.int .i64 y.1) := ownS; have a32 := o_a32.1; have f_a32 := o_a32.2; have o_a33 : Own (w3) (w.heap.size) 3 (.int .i64 y.2) := ownS; have a33 := o_a33.1; have f_a33 := o_a33.2; have o_a34 : Own (w3) (w.heap.size) 4 (.int .i64 z.1) := ownS; have a34 := o_a34.1; have f_a34 := o_a34.2; have o_a35 : Own (w3) (w.heap.size) 5 (.int .i64 z.2) := ownS; have a35 := o_a35.1; have f_a35 := o_a35.2
              have o_r30 : Own (w3) (w.heap.size + 1) 0 (.int .i64 0) := ownS; have r30 := o_r30.1; have f_r30 := o_r30.2; have o_r31 : Own (w3) (w.heap.size + 1) 1 (.int .i64 0) := ownS; have r31 := o_r31.1; have f_r31 := o_r31.2
              go_wp2_with fail
              refine (AX.out _).mono ?_
              rintro e w4 ⟨rfl, hb4⟩
              have hs4 : _ ≤ w4.heap.size := hb4.size
              try simp at hs4
              have o_a40 : Own (w4) (w.heap.size) 0 (.int .i64 x.1) := ownS; have a40 := o_a40.1; have f_a40 := o_a40.2; have o_a41 : Own (w4) (w.heap.size) 1 (.int .i64 x.2) := ownS; have a41 := o_a41.1; have f_a41 := o_a41.2; have o_a42 : Own (w4) (w.heap.size) 2 (.int .i64 y.1) := ownS; have a42 := o_a42.1; have f_a42 := o_a42.2; have o_a43 : Own (w4) (w.heap.size) 3 (.int .i64 y.2) := ownS; have a43 := o_a43.1; have f_a43 := o_a43.2; have o_a44 : Own (w4) (w.heap.size) 4 (.int .i64 z.1) := ownS; have a44 := o_a44.1; have f_a44 := o_a44.2; have o_a45 : Own (w4) (w.heap.size) 5 (.int .i64 z.2) := ownS; have a45 := o_a45.1; have f_a45 := o_a45.2
              have o_r40 : Own (w4) (w.heap.size + 1) 0 (.int .i64 0) := ownS; have r40 := o_r40.1; have f_r40 := o_r40.2; have o_r41 : Own (w4) (w.heap.size + 1) 1 (.int .i64 0) := ownS; have r41 := o_r41.1; have f_r41 := o_r41.2
              go_wp2_with fail
              refine (AY.out _).mono ?_
              rintro e w5 ⟨rfl, hb5⟩
              have hs5 : _ ≤ w5.heap.size := hb5.size
              try simp at hs5
              have o_a50 : Own (w5) (w.heap.size) 0 (.int .i64 x.1) := ownS; have a50 := o_a50.1; have f_a50 := o_a50.2; have o_a51 : Own (w5) (w.heap.size) 1 (.int .i64 x.2) := ownS; have a51 := o_a51.1; have f_a51 := o_a51.2; have o_a52 : Own (w5) (w.heap.size) 2 (.int .i64 y.1) := ownS; have a52 := o_a52.1; have f_a52 := o_a52.2; have o_a53 : Own (w5) (w.heap.size) 3 (.int .i64 y.2) := ownS; have a53 := o_a53.1; have f_a53 := o_a53.2; have o_a54 : Own (w5) (w.heap.size) 4 (.int .i64 z.1) := ownS; have a54 := o_a54.1; have f_a54 := o_a54.2; have o_a55 : Own (w5) (w.heap.size) 5 (.int .i64 z.2) := ownS; have a55 := o_a55.1; have f_a55 := o_a55.2
              have o_r50 : Own (w5) (w.heap.size + 1) 0 (.int .i64 0) := ownS; have r50 := o_r50.1; have f_r50 := o_r50.2; have o_r51 : Own (w5) (w.heap.size + 1) 1 (.int .i64 0) := ownS; have r51 := o_r51.1; have f_r51 := o_r51.2
              go_wp2_with fail
              refine (AZ.out _).mono ?_
              rintro e w6 ⟨rfl, hb6⟩
              have hs6 : _ ≤ w6.heap.size := hb6.size
              try simp at hs6
              have o_a60 : Own (w6) (w.heap.size) 0 (.int .i64 x.1) := ownS; have a60 := o_a60.1; have f_a60 := o_a60.2; have o_a61 : Own (w6) (w.heap.size) 1 (.int .i64 x.2) := ownS; have a61 := o_a61.1; have f_a61 := o_a61.2; have o_a62 : Own (w6) (w.heap.size) 2 (.int .i64 y.1) := ownS; have a62 := o_a62.1; have f_a62 := o_a62.2; have o_a63 : Own (w6) (w.heap.size) 3 (.int .i64 y.2) := ownS; have a63 := o_a63.1; have f_a63 := o_a63.2; have o_a64 : Own (w6) (w.heap.size) 4 (.int .i64 z.1) := ownS; have a64 := o_a64.1; have f_a64 := o_a64.2; have o_a65 : Own (w6) (w.heap.size) 5 (.int .i64 z.2) := ownS; have a65 := o_a65.1; have f_a65 := o_a65.2
              have o_r60 : Own (w6) (w.heap.size + 1) 0 (.int .i64 0) := ownS; have r60 := o_r60.1; have f_r60 := o_r60.2; have o_r61 : Own (w6) (w.heap.size + 1) 1 (.int .i64 0) := ownS; have r61 := o_r61.1; have f_r61 := o_r61.2
              go_wp2_with fail
              refine (S1.out _).mono ?_
              rintro e w7 ⟨rfl, hb7⟩
              have hs7 : _ ≤ w7.heap.size := hb7.size
              try simp at hs7
              go_wp2_with fail
              refine (R1.out _).mono ?_
              rintro e w8 ⟨rfl, hb8⟩
              have hs8 : _ ≤ w8.heap.size := hb8.size
              try simp at hs8
              have o_r80 : Own (w8) (w.heap.size + 1) 0 (.int .i64 0) := ownS; have r80 := o_r80.1; have f_r80 := o_r80.2; have o_r81 : Own (w8) (w.heap.size + 1) 1 (.int .i64 0) := ownS; have r81 := o_r81.1; have f_r81 := o_r81.2
              go_wp2_with fail
              refine (S2.out _).mono ?_
              rintro e w9 ⟨rfl, hb9⟩
              have hs9 : _ ≤ w9.heap.size := hb9.size
              try simp at hs9
              have o_r90 : Own (w9) (w.heap.size + 1) 0 (.int .i64 0) := ownS; have r90 := o_r90.1; have f_r90 := o_r90.2; have o_r91 : Own (w9) (w.heap.size + 1) 1 (.int .i64 0) := ownS; have r91 := o_r91.1; have f_r91 := o_r91.2
              go_wp2_with fail
              refine (R2.out _).mono ?_
              rintro e w10 ⟨rfl, hb10⟩
              have hs10 : _ ≤ w10.heap.size := hb10.size
              try simp at hs10
              have o_r100 : Own (w10) (w.heap.size + 1) 0 (.int .i64 0) := ownS; have r100 := o_r100.1; have f_r100 := o_r100.2; have o_r101 : Own (w10) (w.heap.size + 1) 1 (.int .i64 0) := ownS; have r101 := o_r101.1; have f_r101 := o_r101.2
              have o_s100 : Own (w10) (w9.heap.size) 0 (.int .i64 (hiW v2)) := ownS; have s100 := o_s100.1; have f_s100 := o_s100.2; have o_s101 : Own (w10) (w9.heap.size) 1 (.int .u64 (loW v2)) := ownS; have s101 := o_s101.1; have f_s101 := o_s101.2
              have ls := World.block_lt_of_cell? _ _ r90
              have ls' : ¬ w9.heap.size = w.heap.size + 1 := by omega
              have ls2 : ¬ w.heap.size + 1 = w9.heap.size := by omega
              go_wp2_with fail
              obtain ⟨hlt2, hlt3, hlt4, hlt5, hlt6, hlt7, hlt8, hlt9, hlt10, hlt11⟩ := below_add; go_region_held3 (fun w' => w'.cell? ⟨w9.heap.size, 0, none⟩ = some (.int .i64 (hiW v2)) ∧ w'.cell? ⟨w9.heap.size, 1, none⟩ = some (.int .u64 (loW v2)) ∧ w'.cell? ⟨w.heap.size + 1, 0, none⟩ = some (.int .i64 0) ∧ w'.cell? ⟨w.heap.size + 1, 1, none⟩ = some (.int .i64 0)) (first | (with_reducible exact ((And.imp (cell_kept (by assumption)) (And.imp (cell_kept (by assumption)) (And.imp (cell_kept (by assumption)) (cell_kept (by assumption))))) (by assumption))) | (with_reducible exact ((And.imp (cell_alloc) (And.imp (cell_alloc) (And.imp (cell_alloc) (cell_alloc)))) (by assumption))) | (with_reducible exact ((And.imp (fun h => cell_far (by first | (simp; done) | (simp; omega) | (dsimp only; omega)) (cell_far (by first | (simp; done) | (simp; omega) | (dsimp only; omega)) h)) (And.imp (fun h => cell_far (by first | (simp; done) | (simp; omega) | (dsimp only; omega)) (cell_far (by first | (simp; done) | (simp; omega) | (dsimp only; omega)) h)) (And.imp (fun h => cell_far (by first | (simp; done) | (simp; omega) | (dsimp only; omega)) (cell_far (by first | (simp; done) | (simp; omega) | (dsimp only; omega)) h)) (fun h => cell_far (by first | (simp; done) | (simp; omega) | (dsimp only; omega)) (cell_far (by first | (simp; done) | (simp; omega) | (dsimp only; omega)) h))))) (by assumption))) | (refine ⟨?_, ?_, ?_, ?_⟩ <;> repeat (first | (with_reducible assumption) | (with_reducible refine cell_far (by first | (simp; done) | (simp; omega) | (dsimp only; omega)) ?_) | (with_reducible refine cell_drew ?_) | (with_reducible refine cell_drewN ?_) | (with_reducible refine cell_kept (by assumption) ?_) | (simp [go_sem]; done) | (with_reducible refine cell_alloc ?_))) | (simp [go_sem, *]; done)) ((go_at_call 129; refine (M.out _).mono ?_; rintro e w1 ⟨rfl, hb⟩; have hs : _ ≤ w1.heap.size := hb.size; (try simp at hs); obtain ⟨hc, hf, hl, hn, hm⟩ := behind hb))
              have o_r110 : Own (w1) (w.heap.size + 1) 0 (.int .i64 0) := ownS; have r110 := o_r110.1; have f_r110 := o_r110.2; have o_r111 : Own (w1) (w.heap.size + 1) 1 (.int .i64 0) := ownS; have r111 := o_r111.1; have f_r111 := o_r111.2
              go_wp2
              exact bodyPost_ret (v := .agg #[.int .i64 m1, .int .i64 (m2 + 1)]) (by simp [results, Try.results67, go_sem, r110, r111]) rfl ⟨by rw [E.out], belS⟩
          · have U := hu.trans (if_neg e)
            rw [U] at EW EI
            by_cases o : 1152921504606846976 ≤ m2 + 1
            · have E := Lib.hid (EW o)
              clear EW EI U hu
              have e0 : (hiW (m2 * m2) == hiW v2) = false := by simpa using f
              clear e f
              go_enter Try.func67, Try.ntmps67
              go_wp2_with fail
              refine (WX.out _).mono ?_
              rintro e w1 ⟨rfl, hb1⟩
              have hs1 : _ ≤ w1.heap.size := hb1.size
              try simp at hs1
              have o_a10 : Own (w1) (w.heap.size) 0 (.int .i64 x.1) := ownS; have a10 := o_a10.1; have f_a10 := o_a10.2; have o_a11 : Own (w1) (w.heap.size) 1 (.int .i64 x.2) := ownS; have a11 := o_a11.1; have f_a11 := o_a11.2; have o_a12 : Own (w1) (w.heap.size) 2 (.int .i64 y.1) := ownS; have a12 := o_a12.1; have f_a12 := o_a12.2; have o_a13 : Own (w1) (w.heap.size) 3 (.int .i64 y.2) := ownS; have a13 := o_a13.1; have f_a13 := o_a13.2; have o_a14 : Own (w1) (w.heap.size) 4 (.int .i64 z.1) := ownS; have a14 := o_a14.1; have f_a14 := o_a14.2; have o_a15 : Own (w1) (w.heap.size) 5 (.int .i64 z.2) := ownS; have a15 := o_a15.1; have f_a15 := o_a15.2
              have o_r10 : Own (w1) (w.heap.size + 1) 0 (.int .i64 0) := ownS; have r10 := o_r10.1; have f_r10 := o_r10.2; have o_r11 : Own (w1) (w.heap.size + 1) 1 (.int .i64 0) := ownS; have r11 := o_r11.1; have f_r11 := o_r11.2
              go_wp2_with fail
              refine (WY.out _).mono ?_
              rintro e w2 ⟨rfl, hb2⟩
              have hs2 : _ ≤ w2.heap.size := hb2.size
              try simp at hs2
              have o_a20 : Own (w2) (w.heap.size) 0 (.int .i64 x.1) := ownS; have a20 := o_a20.1; have f_a20 := o_a20.2; have o_a21 : Own (w2) (w.heap.size) 1 (.int .i64 x.2) := ownS; have a21 := o_a21.1; have f_a21 := o_a21.2; have o_a22 : Own (w2) (w.heap.size) 2 (.int .i64 y.1) := ownS; have a22 := o_a22.1; have f_a22 := o_a22.2; have o_a23 : Own (w2) (w.heap.size) 3 (.int .i64 y.2) := ownS; have a23 := o_a23.1; have f_a23 := o_a23.2; have o_a24 : Own (w2) (w.heap.size) 4 (.int .i64 z.1) := ownS; have a24 := o_a24.1; have f_a24 := o_a24.2; have o_a25 : Own (w2) (w.heap.size) 5 (.int .i64 z.2) := ownS; have a25 := o_a25.1; have f_a25 := o_a25.2
              have o_r20 : Own (w2) (w.heap.size + 1) 0 (.int .i64 0) := ownS; have r20 := o_r20.1; have f_r20 := o_r20.2; have o_r21 : Own (w2) (w.heap.size + 1) 1 (.int .i64 0) := ownS; have r21 := o_r21.1; have f_r21 := o_r21.2
              go_wp2_with fail
              refine (WZ.out _).mono ?_
              rintro e w3 ⟨rfl, hb3⟩
              have hs3 : _ ≤ w3.heap.size := hb3.size
              try simp at hs3
              have o_a30 : Own (w3) (w.heap.size) 0 (.int .i64 x.1) := ownS; have a30 := o_a30.1; have f_a30 := o_a30.2; have o_a31 : Own (w3) (w.heap.size) 1 (.int .i64 x.2) := ownS; have a31 := o_a31.1; have f_a31 := o_a31.2; have o_a32 : Own (w3) (w.heap.size) 2 (.int .i64 y.1) := ownS; have a32 := o_a32.1; have f_a32 := o_a32.2; have o_a33 : Own (w3) (w.heap.size) 3 (.int .i64 y.2) := ownS; have a33 := o_a33.1; have f_a33 := o_a33.2; have o_a34 : Own (w3) (w.heap.size) 4 (.int .i64 z.1) := ownS; have a34 := o_a34.1; have f_a34 := o_a34.2; have o_a35 : Own (w3) (w.heap.size) 5 (.int .i64 z.2) := ownS; have a35 := o_a35.1; have f_a35 := o_a35.2
              have o_r30 : Own (w3) (w.heap.size + 1) 0 (.int .i64 0) := ownS; have r30 := o_r30.1; have f_r30 := o_r30.2; have o_r31 : Own (w3) (w.heap.size + 1) 1 (.int .i64 0) := ownS; have r31 := o_r31.1; have f_r31 := o_r31.2
              go_wp2_with fail
              refine (AX.out _).mono ?_
              rintro e w4 ⟨rfl, hb4⟩
              have hs4 : _ ≤ w4.heap.size := hb4.size
              try simp at hs4
              have o_a40 : Own (w4) (w.heap.size) 0 (.int .i64 x.1) := ownS; have a40 := o_a40.1; have f_a40 := o_a40.2; have o_a41 : Own (w4) (w.heap.size) 1 (.int .i64 x.2) := ownS; have a41 := o_a41.1; have f_a41 := o_a41.2; have o_a42 : Own (w4) (w.heap.size) 2 (.int .i64 y.1) := ownS; have a42 := o_a42.1; have f_a42 := o_a42.2; have o_a43 : Own (w4) (w.heap.size) 3 (.int .i64 y.2) := ownS; have a43 := o_a43.1; have f_a43 := o_a43.2; have o_a44 : Own (w4) (w.heap.size) 4 (.int .i64 z.1) := ownS; have a44 := o_a44.1; have f_a44 := o_a44.2; have o_a45 : Own (w4) (w.heap.size) 5 (.int .i64 z.2) := ownS; have a45 := o_a45.1; have f_a45 := o_a45.2
              have o_r40 : Own (w4) (w.heap.size + 1) 0 (.int .i64 0) := ownS; have r40 := o_r40.1; have f_r40 := o_r40.2; have o_r41 : Own (w4) (w.heap.size + 1) 1 (.int .i64 0) := ownS; have r41 := o_r41.1; have f_r41 := o_r41.2
              go_wp2_with fail
              refine (AY.out _).mono ?_
              rintro e w5 ⟨rfl, hb5⟩
              have hs5 : _ ≤ w5.heap.size := hb5.size
              try simp at hs5
              have o_a50 : Own (w5) (w.heap.size) 0 (.int .i64 x.1) := ownS; have a50 := o_a50.1; have f_a50 := o_a50.2; have o_a51 : Own (w5) (w.heap.size) 1 (.int .i64 x.2) := ownS; have a51 := o_a51.1; have f_a51 := o_a51.2; have o_a52 : Own (w5) (w.heap.size) 2 (.int .i64 y.1) := ownS; have a52 := o_a52.1; have f_a52 := o_a52.2; have o_a53 : Own (w5) (w.heap.size) 3 (.int .i64 y.2) := ownS; have a53 := o_a53.1; have f_a53 := o_a53.2; have o_a54 : Own (w5) (w.heap.size) 4 (.int .i64 z.1) := ownS; have a54 := o_a54.1; have f_a54 := o_a54.2; have o_a55 : Own (w5) (w.heap.size) 5 (.int .i64 z.2) := ownS; have a55 := o_a55.1; have f_a55 := o_a55.2
              have o_r50 : Own (w5) (w.heap.size + 1) 0 (.int .i64 0) := ownS; have r50 := o_r50.1; have f_r50 := o_r50.2; have o_r51 : Own (w5) (w.heap.size + 1) 1 (.int .i64 0) := ownS; have r51 := o_r51.1; have f_r51 := o_r51.2
              go_wp2_with fail
              refine (AZ.out _).mono ?_
              rintro e w6 ⟨rfl, hb6⟩
              have hs6 : _ ≤ w6.heap.size := hb6.size
              try simp at hs6
              have o_a60 : Own (w6) (w.heap.size) 0 (.int .i64 x.1) := ownS; have a60 := o_a60.1; have f_a60 := o_a60.2; have o_a61 : Own (w6) (w.heap.size) 1 (.int .i64 x.2) := ownS; have a61 := o_a61.1; have f_a61 := o_a61.2; have o_a62 : Own (w6) (w.heap.size) 2 (.int .i64 y.1) := ownS; have a62 := o_a62.1; have f_a62 := o_a62.2; have o_a63 : Own (w6) (w.heap.size) 3 (.int .i64 y.2) := ownS; have a63 := o_a63.1; have f_a63 := o_a63.2; have o_a64 : Own (w6) (w.heap.size) 4 (.int .i64 z.1) := ownS; have a64 := o_a64.1; have f_a64 := o_a64.2; have o_a65 : Own (w6) (w.heap.size) 5 (.int .i64 z.2) := ownS; have a65 := o_a65.1; have f_a65 := o_a65.2
              have o_r60 : Own (w6) (w.heap.size + 1) 0 (.int .i64 0) := ownS; have r60 := o_r60.1; have f_r60 := o_r60.2; have o_r61 : Own (w6) (w.heap.size + 1) 1 (.int .i64 0) := ownS; have r61 := o_r61.1; have f_r61 := o_r61.2
              go_wp2_with fail
              refine (S1.out _).mono ?_
              rintro e w7 ⟨rfl, hb7⟩
              have hs7 : _ ≤ w7.heap.size := hb7.size
              try simp at hs7
              go_wp2_with fail
              refine (R1.out _).mono ?_
              rintro e w8 ⟨rfl, hb8⟩
              have hs8 : _ ≤ w8.heap.size := hb8.size
              try simp at hs8
              have o_r80 : Own (w8) (w.heap.size + 1) 0 (.int .i64 0) := ownS; have r80 := o_r80.1; have f_r80 := o_r80.2; have o_r81 : Own (w8) (w.heap.size + 1) 1 (.int .i64 0) := ownS; have r81 := o_r81.1; have f_r81 := o_r81.2
              go_wp2_with fail
              refine (S2.out _).mono ?_
              rintro e w9 ⟨rfl, hb9⟩
              have hs9 : _ ≤ w9.heap.size := hb9.size
              try simp at hs9
              have o_r90 : Own (w9) (w.heap.size + 1) 0 (.int .i64 0) := ownS; have r90 := o_r90.1; have f_r90 := o_r90.2; have o_r91 : Own (w9) (w.heap.size + 1) 1 (.int .i64 0) := ownS; have r91 := o_r91.1; have f_r91 := o_r91.2
              go_wp2_with fail
              refine (R2.out _).mono ?_
              rintro e w10 ⟨rfl, hb10⟩
              have hs10 : _ ≤ w10.heap.size := hb10.size
              try simp at hs10
              have o_r100 : Own (w10) (w.heap.size + 1) 0 (.int .i64 0) := ownS; have r100 := o_r100.1; have f_r100 := o_r100.2; have o_r101 : Own (w10) (w.heap.size + 1) 1 (.int .i64 0) := ownS; have r101 := o_r101.1; have f_r101 := o_r101.2
              have o_s100 : Own (w10) (w9.heap.size) 0 (.int .i64 (hiW v2)) := ownS; have s100 := o_s100.1; have f_s100 := o_s100.2; have o_s101 : Own (w10) (w9.heap.size) 1 (.int .u64 (loW v2)) := ownS; have s101 := o_s101.1; have f_s101 := o_s101.2
              have ls := World.block_lt_of_cell? _ _ r90
              have ls' : ¬ w9.heap.size = w.heap.size + 1 := by omega
              have ls2 : ¬ w.heap.size + 1 = w9.heap.size := by omega
              go_wp2_with fail
              obtain ⟨hlt2, hlt3, hlt4, hlt5, hlt6, hlt7, hlt8, hlt9, hlt10, hlt11⟩ := below_add; go_region_held3 (fun w' => w'.cell? ⟨w9.heap.size, 0, none⟩ = some (.int .i64 (hiW v2)) ∧ w'.cell? ⟨w9.heap.size, 1, none⟩ = some (.int .u64 (loW v2)) ∧ w'.cell? ⟨w.heap.size + 1, 0, none⟩ = some (.int .i64 0) ∧ w'.cell? ⟨w.heap.size + 1, 1, none⟩ = some (.int .i64 0)) (first | (with_reducible exact ((And.imp (cell_kept (by assumption)) (And.imp (cell_kept (by assumption)) (And.imp (cell_kept (by assumption)) (cell_kept (by assumption))))) (by assumption))) | (with_reducible exact ((And.imp (cell_alloc) (And.imp (cell_alloc) (And.imp (cell_alloc) (cell_alloc)))) (by assumption))) | (with_reducible exact ((And.imp (fun h => cell_far (by first | (simp; done) | (simp; omega) | (dsimp only; omega)) (cell_far (by first | (simp; done) | (simp; omega) | (dsimp only; omega)) h)) (And.imp (fun h => cell_far (by first | (simp; done) | (simp; omega) | (dsimp only; omega)) (cell_far (by first | (simp; done) | (simp; omega) | (dsimp only; omega)) h)) (And.imp (fun h => cell_far (by first | (simp; done) | (simp; omega) | (dsimp only; omega)) (cell_far (by first | (simp; done) | (simp; omega) | (dsimp only; omega)) h)) (fun h => cell_far (by first | (simp; done) | (simp; omega) | (dsimp only; omega)) (cell_far (by first | (simp; done) | (simp; omega) | (dsimp only; omega)) h))))) (by assumption))) | (refine ⟨?_, ?_, ?_, ?_⟩ <;> repeat (first | (with_reducible assumption) | (with_reducible refine cell_far (by first | (simp; done) | (simp; omega) | (dsimp only; omega)) ?_) | (with_reducible refine cell_drew ?_) | (with_reducible refine cell_drewN ?_) | (with_reducible refine cell_kept (by assumption) ?_) | (simp [go_sem]; done) | (with_reducible refine cell_alloc ?_))) | (simp [go_sem, *]; done)) ((go_at_call 129; refine (M.out _).mono ?_; rintro e w1 ⟨rfl, hb⟩; have hs : _ ≤ w1.heap.size := hb.size; (try simp at hs); obtain ⟨hc, hf, hl, hn, hm⟩ := behind hb))
              go_wp2_with fail
              refine (sWhole_any _).mono ?_
              rintro e w12 ⟨rfl, hb12⟩
              have hs12 : _ ≤ w12.heap.size := hb12.size
              try simp at hs12
              have o_r120 : Own (w12) (w.heap.size + 1) 0 (.int .i64 0) := ownS; have r120 := o_r120.1; have f_r120 := o_r120.2; have o_r121 : Own (w12) (w.heap.size + 1) 1 (.int .i64 0) := ownS; have r121 := o_r121.1; have f_r121 := o_r121.2
              go_wp2
              exact bodyPost_ret (v := .agg #[.int .i64 (-1152921504606846976), .int .i64 1152921504606846976]) (by simp [results, Try.results67, go_sem, r120, r121]) rfl ⟨by rw [E.out]; rfl, belS⟩
            · have E := Lib.hid (EI o)
              clear EW EI U hu
              have e0 : (hiW (m2 * m2) == hiW v2) = false := by simpa using f
              clear e f
              go_enter Try.func67, Try.ntmps67
              go_wp2_with fail
              refine (WX.out _).mono ?_
              rintro e w1 ⟨rfl, hb1⟩
              have hs1 : _ ≤ w1.heap.size := hb1.size
              try simp at hs1
              have o_a10 : Own (w1) (w.heap.size) 0 (.int .i64 x.1) := ownS; have a10 := o_a10.1; have f_a10 := o_a10.2; have o_a11 : Own (w1) (w.heap.size) 1 (.int .i64 x.2) := ownS; have a11 := o_a11.1; have f_a11 := o_a11.2; have o_a12 : Own (w1) (w.heap.size) 2 (.int .i64 y.1) := ownS; have a12 := o_a12.1; have f_a12 := o_a12.2; have o_a13 : Own (w1) (w.heap.size) 3 (.int .i64 y.2) := ownS; have a13 := o_a13.1; have f_a13 := o_a13.2; have o_a14 : Own (w1) (w.heap.size) 4 (.int .i64 z.1) := ownS; have a14 := o_a14.1; have f_a14 := o_a14.2; have o_a15 : Own (w1) (w.heap.size) 5 (.int .i64 z.2) := ownS; have a15 := o_a15.1; have f_a15 := o_a15.2
              have o_r10 : Own (w1) (w.heap.size + 1) 0 (.int .i64 0) := ownS; have r10 := o_r10.1; have f_r10 := o_r10.2; have o_r11 : Own (w1) (w.heap.size + 1) 1 (.int .i64 0) := ownS; have r11 := o_r11.1; have f_r11 := o_r11.2
              go_wp2_with fail
              refine (WY.out _).mono ?_
              rintro e w2 ⟨rfl, hb2⟩
              have hs2 : _ ≤ w2.heap.size := hb2.size
              try simp at hs2
              have o_a20 : Own (w2) (w.heap.size) 0 (.int .i64 x.1) := ownS; have a20 := o_a20.1; have f_a20 := o_a20.2; have o_a21 : Own (w2) (w.heap.size) 1 (.int .i64 x.2) := ownS; have a21 := o_a21.1; have f_a21 := o_a21.2; have o_a22 : Own (w2) (w.heap.size) 2 (.int .i64 y.1) := ownS; have a22 := o_a22.1; have f_a22 := o_a22.2; have o_a23 : Own (w2) (w.heap.size) 3 (.int .i64 y.2) := ownS; have a23 := o_a23.1; have f_a23 := o_a23.2; have o_a24 : Own (w2) (w.heap.size) 4 (.int .i64 z.1) := ownS; have a24 := o_a24.1; have f_a24 := o_a24.2; have o_a25 : Own (w2) (w.heap.size) 5 (.int .i64 z.2) := ownS; have a25 := o_a25.1; have f_a25 := o_a25.2
              have o_r20 : Own (w2) (w.heap.size + 1) 0 (.int .i64 0) := ownS; have r20 := o_r20.1; have f_r20 := o_r20.2; have o_r21 : Own (w2) (w.heap.size + 1) 1 (.int .i64 0) := ownS; have r21 := o_r21.1; have f_r21 := o_r21.2
              go_wp2_with fail
              refine (WZ.out _).mono ?_
              rintro e w3 ⟨rfl, hb3⟩
              have hs3 : _ ≤ w3.heap.size := hb3.size
              try simp at hs3
              have o_a30 : Own (w3) (w.heap.size) 0 (.int .i64 x.1) := ownS; have a30 := o_a30.1; have f_a30 := o_a30.2; have o_a31 : Own (w3) (w.heap.size) 1 (.int .i64 x.2) := ownS; have a31 := o_a31.1; have f_a31 := o_a31.2; have o_a32 : Own (w3) (w.heap.size) 2 (.int .i64 y.1) := ownS; have a32 := o_a32.1; have f_a32 := o_a32.2; have o_a33 : Own (w3) (w.heap.size) 3 (.int .i64 y.2) := ownS; have a33 := o_a33.1; have f_a33 := o_a33.2; have o_a34 : Own (w3) (w.heap.size) 4 (.int .i64 z.1) := ownS; have a34 := o_a34.1; have f_a34 := o_a34.2; have o_a35 : Own (w3) (w.heap.size) 5 (.int .i64 z.2) := ownS; have a35 := o_a35.1; have f_a35 := o_a35.2
              have o_r30 : Own (w3) (w.heap.size + 1) 0 (.int .i64 0) := ownS; have r30 := o_r30.1; have f_r30 := o_r30.2; have o_r31 : Own (w3) (w.heap.size + 1) 1 (.int .i64 0) := ownS; have r31 := o_r31.1; have f_r31 := o_r31.2
              go_wp2_with fail
              refine (AX.out _).mono ?_
              rintro e w4 ⟨rfl, hb4⟩
              have hs4 : _ ≤ w4.heap.size := hb4.size
              try simp at hs4
              have o_a40 : Own (w4) (w.heap.size) 0 (.int .i64 x.1) := ownS; have a40 := o_a40.1; have f_a40 := o_a40.2; have o_a41 : Own (w4) (w.heap.size) 1 (.int .i64 x.2) := ownS; have a41 := o_a41.1; have f_a41 := o_a41.2; have o_a42 : Own (w4) (w.heap.size) 2 (.int .i64 y.1) := ownS; have a42 := o_a42.1; have f_a42 := o_a42.2; have o_a43 : Own (w4) (w.heap.size) 3 (.int .i64 y.2) := ownS; have a43 := o_a43.1; have f_a43 := o_a43.2; have o_a44 : Own (w4) (w.heap.size) 4 (.int .i64 z.1) := ownS; have a44 := o_a44.1; have f_a44 := o_a44.2; have o_a45 : Own (w4) (w.heap.size) 5 (.int .i64 z.2) := ownS; have a45 := o_a45.1; have f_a45 := o_a45.2
              have o_r40 : Own (w4) (w.heap.size + 1) 0 (.int .i64 0) := ownS; have r40 := o_r40.1; have f_r40 := o_r40.2; have o_r41 : Own (w4) (w.heap.size + 1) 1 (.int .i64 0) := ownS; have r41 := o_r41.1; have f_r41 := o_r41.2
              go_wp2_with fail
              refine (AY.out _).mono ?_
              rintro e w5 ⟨rfl, hb5⟩
              have hs5 : _ ≤ w5.heap.size := hb5.size
              try simp at hs5
              have o_a50 : Own (w5) (w.heap.size) 0 (.int .i64 x.1) := ownS; have a50 := o_a50.1; have f_a50 := o_a50.2; have o_a51 : Own (w5) (w.heap.size) 1 (.int .i64 x.2) := ownS; have a51 := o_a51.1; have f_a51 := o_a51.2; have o_a52 : Own (w5) (w.heap.size) 2 (.int .i64 y.1) := ownS; have a52 := o_a52.1; have f_a52 := o_a52.2; have o_a53 : Own (w5) (w.heap.size) 3 (.int .i64 y.2) := ownS; have a53 := o_a53.1; have f_a53 := o_a53.2; have o_a54 : Own (w5) (w.heap.size) 4 (.int .i64 z.1) := ownS; have a54 := o_a54.1; have f_a54 := o_a54.2; have o_a55 : Own (w5) (w.heap.size) 5 (.int .i64 z.2) := ownS; have a55 := o_a55.1; have f_a55 := o_a55.2
              have o_r50 : Own (w5) (w.heap.size + 1) 0 (.int .i64 0) := ownS; have r50 := o_r50.1; have f_r50 := o_r50.2; have o_r51 : Own (w5) (w.heap.size + 1) 1 (.int .i64 0) := ownS; have r51 := o_r51.1; have f_r51 := o_r51.2
              go_wp2_with fail
              refine (AZ.out _).mono ?_
              rintro e w6 ⟨rfl, hb6⟩
              have hs6 : _ ≤ w6.heap.size := hb6.size
              try simp at hs6
              have o_a60 : Own (w6) (w.heap.size) 0 (.int .i64 x.1) := ownS; have a60 := o_a60.1; have f_a60 := o_a60.2; have o_a61 : Own (w6) (w.heap.size) 1 (.int .i64 x.2) := ownS; have a61 := o_a61.1; have f_a61 := o_a61.2; have o_a62 : Own (w6) (w.heap.size) 2 (.int .i64 y.1) := ownS; have a62 := o_a62.1; have f_a62 := o_a62.2; have o_a63 : Own (w6) (w.heap.size) 3 (.int .i64 y.2) := ownS; have a63 := o_a63.1; have f_a63 := o_a63.2; have o_a64 : Own (w6) (w.heap.size) 4 (.int .i64 z.1) := ownS; have a64 := o_a64.1; have f_a64 := o_a64.2; have o_a65 : Own (w6) (w.heap.size) 5 (.int .i64 z.2) := ownS; have a65 := o_a65.1; have f_a65 := o_a65.2
              have o_r60 : Own (w6) (w.heap.size + 1) 0 (.int .i64 0) := ownS; have r60 := o_r60.1; have f_r60 := o_r60.2; have o_r61 : Own (w6) (w.heap.size + 1) 1 (.int .i64 0) := ownS; have r61 := o_r61.1; have f_r61 := o_r61.2
              go_wp2_with fail
              refine (S1.out _).mono ?_
              rintro e w7 ⟨rfl, hb7⟩
              have hs7 : _ ≤ w7.heap.size := hb7.size
              try simp at hs7
              go_wp2_with fail
              refine (R1.out _).mono ?_
              rintro e w8 ⟨rfl, hb8⟩
              have hs8 : _ ≤ w8.heap.size := hb8.size
              try simp at hs8
              have o_r80 : Own (w8) (w.heap.size + 1) 0 (.int .i64 0) := ownS; have r80 := o_r80.1; have f_r80 := o_r80.2; have o_r81 : Own (w8) (w.heap.size + 1) 1 (.int .i64 0) := ownS; have r81 := o_r81.1; have f_r81 := o_r81.2
              go_wp2_with fail
              refine (S2.out _).mono ?_
              rintro e w9 ⟨rfl, hb9⟩
              have hs9 : _ ≤ w9.heap.size := hb9.size
              try simp at hs9
              have o_r90 : Own (w9) (w.heap.size + 1) 0 (.int .i64 0) := ownS; have r90 := o_r90.1; have f_r90 := o_r90.2; have o_r91 : Own (w9) (w.heap.size + 1) 1 (.int .i64 0) := ownS; have r91 := o_r91.1; have f_r91 := o_r91.2
              go_wp2_with fail
              refine (R2.out _).mono ?_
              rintro e w10 ⟨rfl, hb10⟩
              have hs10 : _ ≤ w10.heap.size := hb10.size
              try simp at hs10
              have o_r100 : Own (w10) (w.heap.size + 1) 0 (.int .i64 0) := ownS; have r100 := o_r100.1; have f_r100 := o_r100.2; have o_r101 : Own (w10) (w.heap.size + 1) 1 (.int .i64 0) := ownS; have r101 := o_r101.1; have f_r101 := o_r101.2
              have o_s100 : Own (w10) (w9.heap.size) 0 (.int .i64 (hiW v2)) := ownS; have s100 := o_s100.1; have f_s100 := o_s100.2; have o_s101 : Own (w10) (w9.heap.size) 1 (.int .u64 (loW v2)) := ownS; have s101 := o_s101.1; have f_s101 := o_s101.2
              have ls := World.block_lt_of_cell? _ _ r90
              have ls' : ¬ w9.heap.size = w.heap.size + 1 := by omega
              have ls2 : ¬ w.heap.size + 1 = w9.heap.size := by omega
              go_wp2_with fail
              obtain ⟨hlt2, hlt3, hlt4, hlt5, hlt6, hlt7, hlt8, hlt9, hlt10, hlt11⟩ := below_add; go_region_held3 (fun w' => w'.cell? ⟨w9.heap.size, 0, none⟩ = some (.int .i64 (hiW v2)) ∧ w'.cell? ⟨w9.heap.size, 1, none⟩ = some (.int .u64 (loW v2)) ∧ w'.cell? ⟨w.heap.size + 1, 0, none⟩ = some (.int .i64 0) ∧ w'.cell? ⟨w.heap.size + 1, 1, none⟩ = some (.int .i64 0)) (first | (with_reducible exact ((And.imp (cell_kept (by assumption)) (And.imp (cell_kept (by assumption)) (And.imp (cell_kept (by assumption)) (cell_kept (by assumption))))) (by assumption))) | (with_reducible exact ((And.imp (cell_alloc) (And.imp (cell_alloc) (And.imp (cell_alloc) (cell_alloc)))) (by assumption))) | (with_reducible exact ((And.imp (fun h => cell_far (by first | (simp; done) | (simp; omega) | (dsimp only; omega)) (cell_far (by first | (simp; done) | (simp; omega) | (dsimp only; omega)) h)) (And.imp (fun h => cell_far (by first | (simp; done) | (simp; omega) | (dsimp only; omega)) (cell_far (by first | (simp; done) | (simp; omega) | (dsimp only; omega)) h)) (And.imp (fun h => cell_far (by first | (simp; done) | (simp; omega) | (dsimp only; omega)) (cell_far (by first | (simp; done) | (simp; omega) | (dsimp only; omega)) h)) (fun h => cell_far (by first | (simp; done) | (simp; omega) | (dsimp only; omega)) (cell_far (by first | (simp; done) | (simp; omega) | (dsimp only; omega)) h))))) (by assumption))) | (refine ⟨?_, ?_, ?_, ?_⟩ <;> repeat (first | (with_reducible assumption) | (with_reducible refine cell_far (by first | (simp; done) | (simp; omega) | (dsimp only; omega)) ?_) | (with_reducible refine cell_drew ?_) | (with_reducible refine cell_drewN ?_) | (with_reducible refine cell_kept (by assumption) ?_) | (simp [go_sem]; done) | (with_reducible refine cell_alloc ?_))) | (simp [go_sem, *]; done)) ((go_at_call 129; refine (M.out _).mono ?_; rintro e w1 ⟨rfl, hb⟩; have hs : _ ≤ w1.heap.size := hb.size; (try simp at hs); obtain ⟨hc, hf, hl, hn, hm⟩ := behind hb))
              have o_r110 : Own (w1) (w.heap.size + 1) 0 (.int .i64 0) := ownS; have r110 := o_r110.1; have f_r110 := o_r110.2; have o_r111 : Own (w1) (w.heap.size + 1) 1 (.int .i64 0) := ownS; have r111 := o_r111.1; have f_r111 := o_r111.2
              go_wp2
              exact bodyPost_ret (v := .agg #[.int .i64 m1, .int .i64 (m2 + 1)]) (by simp [results, Try.results67, go_sem, r110, r111]) rfl ⟨by rw [E.out], belS⟩
      · have E := Lib.hid (nrm_whole (x := x) (y := y) (z := z) (.inr (.inr bz)))
        rw [bnd_yes bx] at WX
        rw [bnd_yes by'] at WY
        rw [bnd_no bz] at WZ
        clear bx by' bz
        go_enter Try.func67, Try.ntmps67
        go_wp2_with fail
        refine (WX.out _).mono ?_
        rintro e w1 ⟨rfl, hb1⟩
        have hs1 : _ ≤ w1.heap.size := hb1.size
        try simp at hs1
        have o_a10 : Own (w1) (w.heap.size) 0 (.int .i64 x.1) := ownS; have a10 := o_a10.1; have f_a10 := o_a10.2; have o_a11 : Own (w1) (w.heap.size) 1 (.int .i64 x.2) := ownS; have a11 := o_a11.1; have f_a11 := o_a11.2; have o_a12 : Own (w1) (w.heap.size) 2 (.int .i64 y.1) := ownS; have a12 := o_a12.1; have f_a12 := o_a12.2; have o_a13 : Own (w1) (w.heap.size) 3 (.int .i64 y.2) := ownS; have a13 := o_a13.1; have f_a13 := o_a13.2; have o_a14 : Own (w1) (w.heap.size) 4 (.int .i64 z.1) := ownS; have a14 := o_a14.1; have f_a14 := o_a14.2; have o_a15 : Own (w1) (w.heap.size) 5 (.int .i64 z.2) := ownS; have a15 := o_a15.1; have f_a15 := o_a15.2
        have o_r10 : Own (w1) (w.heap.size + 1) 0 (.int .i64 0) := ownS; have r10 := o_r10.1; have f_r10 := o_r10.2; have o_r11 : Own (w1) (w.heap.size + 1) 1 (.int .i64 0) := ownS; have r11 := o_r11.1; have f_r11 := o_r11.2
        go_wp2_with fail
        refine (WY.out _).mono ?_
        rintro e w2 ⟨rfl, hb2⟩
        have hs2 : _ ≤ w2.heap.size := hb2.size
        try simp at hs2
        have o_a20 : Own (w2) (w.heap.size) 0 (.int .i64 x.1) := ownS; have a20 := o_a20.1; have f_a20 := o_a20.2; have o_a21 : Own (w2) (w.heap.size) 1 (.int .i64 x.2) := ownS; have a21 := o_a21.1; have f_a21 := o_a21.2; have o_a22 : Own (w2) (w.heap.size) 2 (.int .i64 y.1) := ownS; have a22 := o_a22.1; have f_a22 := o_a22.2; have o_a23 : Own (w2) (w.heap.size) 3 (.int .i64 y.2) := ownS; have a23 := o_a23.1; have f_a23 := o_a23.2; have o_a24 : Own (w2) (w.heap.size) 4 (.int .i64 z.1) := ownS; have a24 := o_a24.1; have f_a24 := o_a24.2; have o_a25 : Own (w2) (w.heap.size) 5 (.int .i64 z.2) := ownS; have a25 := o_a25.1; have f_a25 := o_a25.2
        have o_r20 : Own (w2) (w.heap.size + 1) 0 (.int .i64 0) := ownS; have r20 := o_r20.1; have f_r20 := o_r20.2; have o_r21 : Own (w2) (w.heap.size + 1) 1 (.int .i64 0) := ownS; have r21 := o_r21.1; have f_r21 := o_r21.2
        go_wp2_with fail
        refine (WZ.out _).mono ?_
        rintro e w3 ⟨rfl, hb3⟩
        have hs3 : _ ≤ w3.heap.size := hb3.size
        try simp at hs3
        have o_a30 : Own (w3) (w.heap.size) 0 (.int .i64 x.1) := ownS; have a30 := o_a30.1; have f_a30 := o_a30.2; have o_a31 : Own (w3) (w.heap.size) 1 (.int .i64 x.2) := ownS; have a31 := o_a31.1; have f_a31 := o_a31.2; have o_a32 : Own (w3) (w.heap.size) 2 (.int .i64 y.1) := ownS; have a32 := o_a32.1; have f_a32 := o_a32.2; have o_a33 : Own (w3) (w.heap.size) 3 (.int .i64 y.2) := ownS; have a33 := o_a33.1; have f_a33 := o_a33.2; have o_a34 : Own (w3) (w.heap.size) 4 (.int .i64 z.1) := ownS; have a34 := o_a34.1; have f_a34 := o_a34.2; have o_a35 : Own (w3) (w.heap.size) 5 (.int .i64 z.2) := ownS; have a35 := o_a35.1; have f_a35 := o_a35.2
        have o_r30 : Own (w3) (w.heap.size + 1) 0 (.int .i64 0) := ownS; have r30 := o_r30.1; have f_r30 := o_r30.2; have o_r31 : Own (w3) (w.heap.size + 1) 1 (.int .i64 0) := ownS; have r31 := o_r31.1; have f_r31 := o_r31.2
        go_wp2_with fail
        refine (sWhole_any _).mono ?_
        rintro e w4 ⟨rfl, hb4⟩
        have hs4 : _ ≤ w4.heap.size := hb4.size
        try simp at hs4
        have o_r40 : Own (w4) (w.heap.size + 1) 0 (.int .i64 0) := ownS; have r40 := o_r40.1; have f_r40 := o_r40.2; have o_r41 : Own (w4) (w.heap.size + 1) 1 (.int .i64 0) := ownS; have r41 := o_r41.1; have f_r41 := o_r41.2
        go_wp2
        exact bodyPost_ret (v := .agg #[.int .i64 (-1152921504606846976), .int .i64 1152921504606846976]) (by simp [results, Try.results67, go_sem, r40, r41]) rfl ⟨by rw [E.out]; rfl, belS⟩
    · have E := Lib.hid (nrm_whole (x := x) (y := y) (z := z) (.inr (.inl by')))
      rw [bnd_yes bx] at WX
      rw [bnd_no by'] at WY
      clear bx by'
      go_enter Try.func67, Try.ntmps67
      go_wp2_with fail
      refine (WX.out _).mono ?_
      rintro e w1 ⟨rfl, hb1⟩
      have hs1 : _ ≤ w1.heap.size := hb1.size
      try simp at hs1
      have o_a10 : Own (w1) (w.heap.size) 0 (.int .i64 x.1) := ownS; have a10 := o_a10.1; have f_a10 := o_a10.2; have o_a11 : Own (w1) (w.heap.size) 1 (.int .i64 x.2) := ownS; have a11 := o_a11.1; have f_a11 := o_a11.2; have o_a12 : Own (w1) (w.heap.size) 2 (.int .i64 y.1) := ownS; have a12 := o_a12.1; have f_a12 := o_a12.2; have o_a13 : Own (w1) (w.heap.size) 3 (.int .i64 y.2) := ownS; have a13 := o_a13.1; have f_a13 := o_a13.2; have o_a14 : Own (w1) (w.heap.size) 4 (.int .i64 z.1) := ownS; have a14 := o_a14.1; have f_a14 := o_a14.2; have o_a15 : Own (w1) (w.heap.size) 5 (.int .i64 z.2) := ownS; have a15 := o_a15.1; have f_a15 := o_a15.2
      have o_r10 : Own (w1) (w.heap.size + 1) 0 (.int .i64 0) := ownS; have r10 := o_r10.1; have f_r10 := o_r10.2; have o_r11 : Own (w1) (w.heap.size + 1) 1 (.int .i64 0) := ownS; have r11 := o_r11.1; have f_r11 := o_r11.2
      go_wp2_with fail
      refine (WY.out _).mono ?_
      rintro e w2 ⟨rfl, hb2⟩
      have hs2 : _ ≤ w2.heap.size := hb2.size
      try simp at hs2
      have o_a20 : Own (w2) (w.heap.size) 0 (.int .i64 x.1) := ownS; have a20 := o_a20.1; have f_a20 := o_a20.2; have o_a21 : Own (w2) (w.heap.size) 1 (.int .i64 x.2) := ownS; have a21 := o_a21.1; have f_a21 := o_a21.2; have o_a22 : Own (w2) (w.heap.size) 2 (.int .i64 y.1) := ownS; have a22 := o_a22.1; have f_a22 := o_a22.2; have o_a23 : Own (w2) (w.heap.size) 3 (.int .i64 y.2) := ownS; have a23 := o_a23.1; have f_a23 := o_a23.2; have o_a24 : Own (w2) (w.heap.size) 4 (.int .i64 z.1) := ownS; have a24 := o_a24.1; have f_a24 := o_a24.2; have o_a25 : Own (w2) (w.heap.size) 5 (.int .i64 z.2) := ownS; have a25 := o_a25.1; have f_a25 := o_a25.2
      have o_r20 : Own (w2) (w.heap.size + 1) 0 (.int .i64 0) := ownS; have r20 := o_r20.1; have f_r20 := o_r20.2; have o_r21 : Own (w2) (w.heap.size + 1) 1 (.int .i64 0) := ownS; have r21 := o_r21.1; have f_r21 := o_r21.2
      go_wp2_with fail
      refine (sWhole_any _).mono ?_
      rintro e w3 ⟨rfl, hb3⟩
      have hs3 : _ ≤ w3.heap.size := hb3.size
      try simp at hs3
      have o_r30 : Own (w3) (w.heap.size + 1) 0 (.int .i64 0) := ownS; have r30 := o_r30.1; have f_r30 := o_r30.2; have o_r31 : Own (w3) (w.heap.size + 1) 1 (.int .i64 0) := ownS; have r31 := o_r31.1; have f_r31 := o_r31.2
      go_wp2
      exact bodyPost_ret (v := .agg #[.int .i64 (-1152921504606846976), .int .i64 1152921504606846976]) (by simp [results, Try.results67, go_sem, r30, r31]) rfl ⟨by rw [E.out]; rfl, belS⟩
  · have E := Lib.hid (nrm_whole (x := x) (y := y) (z := z) (.inl bx))
    rw [bnd_no bx] at WX
    clear bx
    go_enter Try.func67, Try.ntmps67
    go_wp2_with fail
    refine (WX.out _).mono ?_
    rintro e w1 ⟨rfl, hb1⟩
    have hs1 : _ ≤ w1.heap.size := hb1.size
    try simp at hs1
    have o_a10 : Own (w1) (w.heap.size) 0 (.int .i64 x.1) := ownS; have a10 := o_a10.1; have f_a10 := o_a10.2; have o_a11 : Own (w1) (w.heap.size) 1 (.int .i64 x.2) := ownS; have a11 := o_a11.1; have f_a11 := o_a11.2; have o_a12 : Own (w1) (w.heap.size) 2 (.int .i64 y.1) := ownS; have a12 := o_a12.1; have f_a12 := o_a12.2; have o_a13 : Own (w1) (w.heap.size) 3 (.int .i64 y.2) := ownS; have a13 := o_a13.1; have f_a13 := o_a13.2; have o_a14 : Own (w1) (w.heap.size) 4 (.int .i64 z.1) := ownS; have a14 := o_a14.1; have f_a14 := o_a14.2; have o_a15 : Own (w1) (w.heap.size) 5 (.int .i64 z.2) := ownS; have a15 := o_a15.1; have f_a15 := o_a15.2
    have o_r10 : Own (w1) (w.heap.size + 1) 0 (.int .i64 0) := ownS; have r10 := o_r10.1; have f_r10 := o_r10.2; have o_r11 : Own (w1) (w.heap.size + 1) 1 (.int .i64 0) := ownS; have r11 := o_r11.1; have f_r11 := o_r11.2
    go_wp2_with fail
    refine (sWhole_any _).mono ?_
    rintro e w2 ⟨rfl, hb2⟩
    have hs2 : _ ≤ w2.heap.size := hb2.size
    try simp at hs2
    have o_r20 : Own (w2) (w.heap.size + 1) 0 (.int .i64 0) := ownS; have r20 := o_r20.1; have f_r20 := o_r20.2; have o_r21 : Own (w2) (w.heap.size + 1) 1 (.int .i64 0) := ownS; have r21 := o_r21.1; have f_r21 := o_r21.2
    go_wp2
    exact bodyPost_ret (v := .agg #[.int .i64 (-1152921504606846976), .int .i64 1152921504606846976]) (by simp [results, Try.results67, go_sem, r20, r21]) rfl ⟨by rw [E.out]; rfl, belS⟩
end Go.Proofs.Ytmikjgbojknlnaa
