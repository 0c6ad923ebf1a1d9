/- The law of products: at every input that can be read as data the call returns true. No conditions. -/
import Derived.Test.YtnfkddaigfjigaaDrawC
import Derived.Test.YtnfkddaigfjigaaWideR
import Derived.Test.YtnfkddaigfjigaaNumK
import Derived.Test.YtnfkddaigfjigaaWideG
import Derived.Test.YtnfkddaigfjigaaWideN
namespace Go.Proofs.Ytnfkddaigfjigaa
open Go.ChangeShapes Go.WideShapes Go.ChangeAt Go.RowKit
set_option linter.unusedVariables false

theorem Own2.alloc {w : World} {b : Nat} {x y : Value} (h : Own2 w b x y) (o : Obj) : Own2 (w.alloc o) b x y :=
  h.below ((Below.refl w.heap.size w).alloc (Nat.le_refl _) o) h.lt
theorem Own2.old {w w1 : World} {b : Nat} {x y : Value} (h : Own2 w b x y) (hb : Below w.heap.size w w1) : Own2 w1 b x y := h.below hb h.lt
theorem Own2.drew {w : World} {b : Nat} {x y : Value} (h : Own2 w b x y) : Own2 w.drew b x y := ⟨h.c0, h.c1, h.fr⟩
theorem small_mul {x y : Int} (x0 : 0 ≤ x) (x1 : x ≤ 65535) (y0 : 0 ≤ y) (y1 : y ≤ 65535) : 0 ≤ x * (1 + y) ∧ x * (1 + y) ≤ 4294967295 := by
  have a : x * (1 + y) ≤ 65535 * (1 + y) := Int.mul_le_mul_of_nonneg_right x1 (by omega)
  exact ⟨Int.mul_nonneg x0 (by omega), by omega⟩
theorem quoW_in {v d : Int} (hv : InW v) : InW (quoW v d) := by
  unfold quoW
  split
  · rename_i h; exact quo_in hv h
  · unfold InW; omega
set_option maxHeartbeats 1000000 in
theorem law_FnProducts (p q : Option Addr) (n cp m cq : Nat) (w : World) (hp : BytesAt w w.heap.size p n) (hq : BytesAt w w.heap.size q m) : Calls Try.prog 4 #[.slice p n cp, .slice q m cq] w fun e w' =>
    e = .returned (.bool true) ∧ Below w.heap.size w w' := by
  have np := hp.big
  have nq := hq.big
  by_cases long : 1048576 < n ∨ 1048576 < m
  · have E := Lib.hid (show decide (1048576 < n ∨ 1048576 < m) = true by simpa using long)
    clear long
    go_enter Try.func4, Try.ntmps4
    go_wp2_with fail
    refine (d8Long_any p q n cp m cq np nq _).mono ?_
    rintro e w1 ⟨rfl, rfl⟩
    rw [E.out]
    go_wp2
    go_ret
    exact ⟨rfl, (by repeat (first | exact Below.refl _ _ | refine Below.drew ?_ | refine Below.setCell ?_ (by first | omega | (simp; done) | (simp; omega)) _ | refine Below.alloc ?_ (by first | omega | (simp; done) | (simp; omega)) _ | refine Below.trans ?_ (Below.mono (by assumption) (by first | omega | (simp; done) | (simp; omega)))))⟩
  · have E := Lib.hid (show decide (1048576 < n ∨ 1048576 < m) = false by simpa using long)
    clear long
    go_enter Try.func4, Try.ntmps4
    go_wp2_with fail
    refine (d8Long_any p q n cp m cq np nq _).mono ?_
    rintro e w1 ⟨rfl, rfl⟩
    rw [E.out]
    go_wp2_with fail
    refine (E8Number_any p n cp _ hp).mono ?_
    rintro e w1 ⟨a, rfl, ha, hb1⟩
    go_wp2_with fail
    refine (E8Number_any q m cq _ ((hq.below hb1).mono hb1.size)).mono ?_
    rintro e w2 ⟨b, rfl, hbb, hb2⟩
    have B2 := hb1.trans (hb2.mono hb1.size)
    clear hb1 hb2
    go_wp2_with fail
    refine (WideMul_any a b ha hbb _).mono ?_
    rintro e w3 ⟨rfl, hb3⟩
    have B3 := B2.trans (hb3.mono B2.size)
    have hv := mul_in ha hbb
    obtain ⟨v, ev⟩ : ∃ v, v = a * b := ⟨_, rfl⟩
    have V1 := Lib.hid (show a * b = v from ev.symm)
    have V2 := Lib.hid (show b * a = v by rw [Int.mul_comm]; exact ev.symm)
    rw [← ev] at hv
    clear ev
    rw [V1.out]
    have o3 := Own2.new w3 (.int .i64 (hiW v)) (.int .u64 (loW v)) 26
    have M := Lib.hid (fun w => (V2.out ▸ WideMul_any b a hbb ha w : Calls Try.prog 19 #[.int .i64 b, .int .i64 a] w fun e w' => e = .returned (.agg #[.int .i64 (hiW v), .int .u64 (loW v)]) ∧ Below w.heap.size w w'))
    go_wp2_with fail
    obtain ⟨hlt2, hlt3, hlt4, hlt5, hlt6, hlt7, hlt8, hlt9, hlt10, hlt11⟩ := below_add; go_region_held3 (fun w' => w'.cell? ⟨w3.heap.size, 0, none⟩ = some (.int .i64 (hiW v)) ∧ w'.cell? ⟨w3.heap.size, 1, none⟩ = some (.int .u64 (loW v))) (simp [go_sem, *]) ((go_at_call 19; refine (M.out _).mono ?_; rintro e w1 ⟨rfl, hb⟩; have hs : _ ≤ w1.heap.size := hb.size; (try simp at hs); obtain ⟨hc, hf, hl, hn, hm⟩ := behind hb))
    have B4 := (B3.alloc B3.size (.cells #[.int .i64 (hiW v), .int .u64 (loW v)] 26)).drew.trans (hb.mono (by simp; have := B3.size; omega))
    have o4 := o3.drew.old hb
    clear o3 M hc hf hl hn hm hlt2 hlt3 hlt4 hlt5 hlt6 hlt7 hlt8 hlt9 hlt10 hlt11 hb hs hb3 B2
    obtain ⟨k40, k41, kf4⟩ := id o4
    go_wp2_with fail
    refine (d8At_any q m cq 1 (by omega) 127 (by unfold In64; omega) _ _ (hq.below B4)).mono ?_
    rintro e w5 ⟨s, rfl, ⟨s0, s1, s2⟩, rfl⟩
    have s3 := s2 (by omega)
    have hs : In64 s := by unfold In64; omega
    clear s1 s2
    have E1 := Lib.hid (show mfI a b s = intW (shrW v s) by unfold mfI; rw [if_pos (by omega), V1.out])
    have E2 := Lib.hid (show mfB a b s = okW (shrW v s) by unfold mfB; rw [if_pos (by omega), V1.out])
    go_wp2_with fail
    refine (MulFloor_any a b s ha hbb hs _).mono ?_
    rintro e w6 ⟨rfl, hb6⟩
    rw [E1.out, E2.out]
    have B6 := B4.trans (hb6.mono B4.size)
    have o6 := o4.old hb6
    clear k40 k41 kf4 o4 B4 hb6
    obtain ⟨k40, k41, kf4⟩ := id o6
    go_wp2_with fail
    refine (WideShift_any v s hv hs _).mono ?_
    rintro e w7 ⟨rfl, hb7⟩
    have B7 := B6.trans (hb7.mono B6.size)
    have o7 := o6.old hb7
    clear k40 k41 kf4 o6 B6 hb7
    go_wp2_with fail
    refine (WideInt_any (shrW v s) (shr_in hv s) _).mono ?_
    rintro e w8 ⟨rfl, hb8⟩
    have B8 := B7.trans (hb8.mono B7.size)
    have o8 := o7.old hb8
    clear o7 B7 hb8
    obtain ⟨k40, k41, kf4⟩ := id o8
    go_wp2_with fail
    refine (d8At_any p n cp 1 (by omega) 65535 (by unfold In64; omega) _ _ (hp.below B8)).mono ?_
    rintro e w9 ⟨x, rfl, ⟨x0, x1, x2⟩, rfl⟩
    have x3 := x2 (by omega)
    clear x1 x2
    go_wp2_with fail
    refine (d8At_any p n cp 3 (by omega) 65535 (by unfold In64; omega) _ _ (hp.below B8)).mono ?_
    rintro e w10 ⟨y, rfl, ⟨y0, y1, y2⟩, rfl⟩
    have y3 := y2 (by omega)
    clear y1 y2
    obtain ⟨d0, d1⟩ := small_mul x0 (show x ≤ 65535 by omega) y0 (show y ≤ 65535 by omega)
    go_wp2_with fail
    generalize ed : 1 + x * (1 + y) = d
    have hd : In64 d := by unfold In64; omega
    have d2 : 1 ≤ d := by omega
    clear ed d0 d1 x0 x3 y0 y3
    have E3 := Lib.hid (show mdI a b d = intW (quoW v d) by unfold mdI quoW; rw [if_pos d2, if_pos d2, V1.out])
    have E4 := Lib.hid (show mdB a b d = okW (quoW v d) by unfold mdB quoW; rw [if_pos d2, if_pos d2, V1.out])
    have E5 := Lib.hid (show okD d = true by simpa [okD] using d2)
    have hqv := quoW_in hv (d := d)
    refine (WideDiv_any v d hv hd _).mono ?_
    rintro e w11 ⟨rfl, hb11⟩
    rw [E5.out]
    clear d2
    have B11 := B8.trans (hb11.mono B8.size)
    have o11 := o8.old hb11
    clear k40 k41 kf4 o8 B8 hb11
    obtain ⟨k40, k41, kf4⟩ := id o11
    go_wp2_with fail
    refine (MulDivFloor_any a b d ha hbb hd _).mono ?_
    rintro e w12 ⟨rfl, hb12⟩
    rw [E3.out, E4.out]
    have B12 := (B11.alloc B11.size (.cells #[.int .i64 (hiW (quoW v d)), .int .u64 (loW (quoW v d))] 26)).trans (hb12.mono (by simp; have := B11.size; omega))
    have o12 := (o11.alloc _).old hb12
    have q12 := (Own2.new _ _ _ _).old hb12
    clear k40 k41 kf4 o11 B11 hb12
    obtain ⟨k40, k41, kf4⟩ := id o12
    obtain ⟨k50, k51, kf5⟩ := id q12
    go_wp2_with fail
    refine (WideInt_any (quoW v d) hqv _).mono ?_
    rintro e w13 ⟨rfl, hb13⟩
    have B13 := B12.trans (hb13.mono B12.size)
    have o13 := o12.old hb13
    clear k40 k41 kf4 k50 k51 kf5 o12 q12 B12 hb13
    obtain ⟨k40, k41, kf4⟩ := id o13
    go_wp2_with fail
    refine (SqrtFloor_any a b ha hbb _).mono ?_
    rintro e w14 ⟨rfl, hb14⟩
    have B14 := B13.trans (hb14.mono B13.size)
    have o14 := o13.old hb14
    clear k40 k41 kf4 o13 B13 hb14
    obtain ⟨k40, k41, kf4⟩ := id o14
    go_wp2_with fail
    refine (WideSqrt_any v hv _).mono ?_
    rintro e w15 ⟨rfl, hb15⟩
    have B15 := B14.trans (hb15.mono B14.size)
    clear k40 k41 kf4 o14 B14 hb15 hqv E3 E4 E5 hd
    by_cases z : a < 0 ∨ b < 0
    · have F2 := Lib.hid (show sfB a b = false by unfold sfB; simp; omega)
      rw [F2.out]
      by_cases z1 : a < 0
      · clear z
        go_wp2
        go_ret
        exact ⟨rfl, (by repeat (first | exact Below.refl _ _ | refine Below.drew ?_ | refine Below.setCell ?_ (by first | omega | (simp; done) | (simp; omega)) _ | refine Below.alloc ?_ (by first | omega | (simp; done) | (simp; omega)) _ | refine Below.trans ?_ (Below.mono (by assumption) (by first | omega | (simp; done) | (simp; omega)))))⟩
      · have z2 : b < 0 := by omega
        clear z
        go_wp2
        go_ret
        exact ⟨rfl, (by repeat (first | exact Below.refl _ _ | refine Below.drew ?_ | refine Below.setCell ?_ (by first | omega | (simp; done) | (simp; omega)) _ | refine Below.alloc ?_ (by first | omega | (simp; done) | (simp; omega)) _ | refine Below.trans ?_ (Below.mono (by assumption) (by first | omega | (simp; done) | (simp; omega)))))⟩
    · have r1 := root_prod ha hbb (by omega) (by omega)
      obtain ⟨r, er⟩ : ∃ r : Int, r = (rootW (a * b).toNat : Int) := ⟨_, rfl⟩
      have r0 : 0 ≤ r := by omega
      rw [← er] at r1
      have v0 : 0 ≤ a * b := Int.mul_nonneg (by omega) (by omega)
      have F1 := Lib.hid (show sfI a b = r by unfold sfI; rw [if_neg z, ← er, wrap64_self (by unfold In64; omega)])
      have F2 := Lib.hid (show sfB a b = true by unfold sfB; simp; omega)
      have F3 := Lib.hid (show sqW v = r by rw [V1.out] at v0 er; unfold sqW; rw [if_neg (by omega), er])
      have F4 := Lib.hid (show sqOk v = true by rw [V1.out] at v0; simpa [sqOk] using v0)
      rw [F1.out, F2.out, F3.out, F4.out]
      have z1 : 0 ≤ a := by omega
      have z2 : 0 ≤ b := by omega
      clear z er v0
      go_wp2
      go_ret
      exact ⟨rfl, (by repeat (first | exact Below.refl _ _ | refine Below.drew ?_ | refine Below.setCell ?_ (by first | omega | (simp; done) | (simp; omega)) _ | refine Below.alloc ?_ (by first | omega | (simp; done) | (simp; omega)) _ | refine Below.trans ?_ (Below.mono (by assumption) (by first | omega | (simp; done) | (simp; omega)))))⟩
end Go.Proofs.Ytnfkddaigfjigaa
