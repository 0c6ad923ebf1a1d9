/- The contract of the iterator over the quarter turns that touch an interval. Conditions: as the lemma says. Contracts of the sines of an interval in the program: a range over the quarter turns that touch it. Conditions: numbers are int64; the program's two intervals are laid. Contracts of SinI and CosI in the program, and their laws. Conditions: numbers are int64; the program's two intervals are laid. A contract of the tangents of an interval in the program: a range over the quarter turns that touch it; the law. Conditions: numbers are int64; the program's two intervals are laid. -/
import Derived.Test.YtnhpacaidcjaoaaGreatDoorSeY
import Derived.Test.YtnhpacaidcjaoaaGreatDoorTrD
import Derived.Test.YtnhpacaidcjaoaaGreatDoorIvU
import Derived.Test.YtnhpacaidcjaoaaGreatDoorIvT
import Derived.Test.YtnhpacaidcjaoaaGreatDoorTrA
import Derived.RangeFuncNested
import Derived.RangeFuncBound
import Derived.RangeFuncCalls
import Derived.RangeFuncLeaves
import Derived.Shelf.Abstract
import Derived.Shelf.RegionOpen
import Derived.WalkKit
import Derived.OwnWalkIn
import Derived.TacticsInMore
import Derived.LoopNIn
import Derived.LoopIn
import Derived.Outline
import Derived.Test.YtnhpacaidcjaoaaGreatDoorIvE
import Derived.RangeFuncFrom
import Derived.WalkMore
import Derived.Deep.RegionHeld3
import Derived.Deep.DeepCutAuto
import Derived.Test.YtnhpacaidcjaoaaGreatDoorSiP
import Derived.Test.YtnhpacaidcjaoaaGreatDoorIvK
import Derived.Test.YtnhpacaidcjaoaaGreatDoorIvLd
namespace Go.Proofs.YtnhpacaidcjaoaaGreatDoor
open Go.ChangeShapes Go.WideShapes Go.ChangeAt Go.RowKit Go.Shelf
set_option linter.unusedVariables false
set_option maxRecDepth 100000
set_option linter.unusedSimpArgs false
set_option maxHeartbeats 1000000
attribute [local go_sem] Oper.semAt_some
theorem quartersIn_any (x : Iv) (w : World) : Calls Tryz.prog 81 #[.agg #[.int .i64 x.1, .int .i64 x.2]] w fun e w' =>
    e = .returned (.func (Fn.func 120) #[] #[.pointer (some ⟨w.heap.size, 0, none⟩)]) ∧ w.alloc (.cells #[.int .i64 x.1, .int .i64 x.2] 23) = w' := by
  have hmf : ∀ (fn : Fn) (first cap : Array Value) (w : World), (Instr.makeFunc fn first cap).run Tryz.prog w = .ok (.func fn first cap) w := fun _ _ _ _ => rfl
  go_enter Tryz.func81, Tryz.ntmps81
  go_wp2
  go_ret
  exact ⟨rfl, rfl⟩
/-- What a round keeps: the interval that the iterator reads. -/
def KpB (b : Nat) (W W' : World) : Prop := W'.heap[b]? = W.heap[b]?
theorem grown_of {W W' : World} (h : Below W.heap.size W W') : W.grownBy W' none := ⟨h.os, h.tape, h.output, h.size, fun k hk _ => h.block k hk⟩
theorem below_of {W W' : World} (h : W.grownBy W' none) : Below W.heap.size W W' := ⟨h.os, h.tape, h.output, h.size, fun k hk => h.block k hk (by simp)⟩
theorem others_of {W W' : World} (h : Below W.heap.size W W') : KeepsOthers W W' := KeepsOthers.of_grownBy (grown_of h) (fun j o e => by cases e)
theorem abide {β : Type} {B : Nat} {J : β → World → Prop} (h : AbidesFrom B J) {s : β} {W W' : World} (hs : J s W) (hb : Below W.heap.size W W') : J s W' := h s W W' none hs (grown_of hb) (fun r e => by cases e)
theorem yield_way {A B : Prop} {e : Ending} (h : (e = .returned (.bool true) ∧ A) ∨ (e = .returned (.bool false) ∧ B)) : ∃ c : Bool, e = .returned (.bool c) ∧ ((c = true → A) ∧ (c = false → B)) := by
  rcases h with ⟨h1, a⟩ | ⟨h1, a⟩
  · exact ⟨true, h1, (fun _ => a), (fun k => by simp at k)⟩
  · exact ⟨false, h1, (fun k => by simp at k), (fun _ => a)⟩
theorem kp_cell {b : Nat} {W W' : World} (h : KpB b W W') (o : Nat) : W'.cell? ⟨b, o, none⟩ = W.cell? ⟨b, o, none⟩ := World.cell?_of_block h
set_option maxHeartbeats 4000000 in
theorem quarters_stops (x : Iv) (n : Nat) (hn : 1 ≤ n) (h1 : In64 x.1) (h2 : In64 x.2) (b : Nat) (w : World) (hb : b < w.heap.size) (c0 : w.cell? ⟨b, 0, none⟩ = some (.int .i64 x.1)) (c1 : w.cell? ⟨b, 1, none⟩ = some (.int .i64 x.2)) :
    SeqStopsK Fence.wide n Tryz.prog 120 #[.pointer (some ⟨b, 0, none⟩)] (fun k : QK => #[.int .i64 k.1]) (KpB b) (fun xs => xs = qkL x) (fun pre => pre <+: qkL x) (cnt x) w := fun l J Jx W hW hJ hJx hY h0 => by
  have d0 : W.cell? ⟨b, 0, none⟩ = some (.int .i64 x.1) := (hW.cell hb).trans c0
  have d1 : W.cell? ⟨b, 1, none⟩ = some (.int .i64 x.2) := (hW.cell hb).trans c1
  have Q1 := Lib.hid (fun w => QuarterOf_any x.1 h1 w)
  have Q2 := Lib.hid (fun w => QuarterOf_any x.2 h2 w)
  have hmx : Tryz.prog.follows .mixedOrders = true := by kernel_rfl
  refine callsIn_of_wp Tryz.func120 rfl trivial ?_ rfl
  simp only [Tryz.ntmps120, List.size_toArray, List.length_cons, List.length_nil, Nat.reduceAdd, Nat.reduceSub, Array.replicate_succ, Array.replicate_zero, List.push_toArray, List.append_toArray, List.nil_append, List.cons_append]
  gi_wp2_with fail
  refine ⟨trivial, ?_⟩
  refine (callsIn_wide.2 (Q1.out _)).mono ?_
  rintro e w1 ⟨rfl, hb1⟩
  have hJ1 : J [] w1 := abide hJ h0 hb1
  have d2 : w1.cell? ⟨b, 0, none⟩ = some (.int .i64 x.1) := cell_kept hb1 d0
  have d3 : w1.cell? ⟨b, 1, none⟩ = some (.int .i64 x.2) := cell_kept hb1 d1
  have q1 := qrt_in x.1
  have q2 := qrt_in x.2
  gi_wp2_with fail
  gi_loopw [3] (fun k wr => ∃ j : Nat, j ≤ cnt x ∧ k = .int .i64 (qrt x.1 + (j : Int)) ∧ wr.cell? ⟨b, 0, none⟩ = some (.int .i64 x.1) ∧ wr.cell? ⟨b, 1, none⟩ = some (.int .i64 x.2) ∧ J (qkP x j) wr) (fun k _ => (qrt x.2 + 1 - intOf k).toNat)
  case atStart => exact ⟨0, by omega, by simp, d2, d3, hJ1⟩
  case round =>
    obtain ⟨j, hj, rfl, e0, e1, hJw⟩ := hrel
    clear d0 d1 d2 d3 hJ1 hb1
    by_cases k : j < cnt x
    · have kc := k
      unfold cnt at kc
      have K0 : decide (qrt x.1 + (j : Int) ≤ qrt x.2) = true := decide_eq_true (by omega)
      have T := Lib.hid (fun w => TurnI_any (qrt x.1 + (j : Int)) w)
      have O := Lib.hid (fun w => OverlapI_any (turI (qrt x.1 + (j : Int))) x w)
      have WN : IntKind.i64.wrap (qrt x.1 + (j : Int) + 1) = qrt x.1 + (j : Int) + 1 := by rw [IntKind.wrap_i64]; omega
      have NE : qrt x.1 + ((j + 1 : Nat) : Int) = qrt x.1 + (j : Int) + 1 := by omega
      gi_wp2_with fail
      refine ⟨trivial, ?_⟩
      refine (callsIn_wide.2 (Q2.out _)).mono ?_
      rintro e w2 ⟨rfl, hb2⟩
      have f0 : w2.cell? ⟨b, 0, none⟩ = some (.int .i64 x.1) := cell_kept hb2 e0
      have f1 : w2.cell? ⟨b, 1, none⟩ = some (.int .i64 x.2) := cell_kept hb2 e1
      have hJ2 : J (qkP x j) w2 := abide hJ hJw hb2
      gi_wp2_with fail
      cases o : olpI (turI (qrt x.1 + (j : Int))) x
      · rw [o] at O
        have lb2 : b < w2.heap.size := World.block_lt_of_cell? _ _ f0
        refine wpIn_wide.2 ?_
        refine AnyS.region (S := OneS 9 (fun u => u.cell? ⟨b, 0, none⟩ = some (.int .i64 x.1) ∧ u.cell? ⟨b, 1, none⟩ = some (.int .i64 x.2))) (by kernel_rfl) (show AnyS _ _ _ _ _ 10 _ _ _ from ?_)
        refine AnyS.take (i := 0) (v := .int .i64 (qrt x.1 + (j : Int))) (T := fun _ => True) [] rfl (by kernel_rfl) (by kernel_rfl) (by kernel_rfl) (by kernel_rfl) (by kernel_rfl) (fun _ _ _ h => h) (fun L u q s => trivial) (fun L u s => OneS.less (by decide) s) (Or.inl ⟨by rfl, ?_⟩) (fun _ => ⟨f0, f1⟩) ?_
        · intro u hu
          clear hu
          go_simp
        try simp only [Act.put, List.setIfInBounds_toArray, List.set_cons_zero, List.set_cons_succ]
        refine AnyS.take (i := 2) (v := .agg #[.int .i64 x.1, .int .i64 x.2]) (T := fun u => u.cell? ⟨b, 0, none⟩ = some (.int .i64 x.1) ∧ u.cell? ⟨b, 1, none⟩ = some (.int .i64 x.2)) [3, 4, 9] rfl (by kernel_rfl) (by kernel_rfl) (by kernel_rfl) (by kernel_rfl) (by kernel_rfl) (fun _ _ _ h => h) (fun L u q s => s (q 9 (by simp))) (fun L u s => OneS.less (by decide) s) (Or.inl ⟨by rfl, ?_⟩) (fun _ => ⟨f0, f1⟩) ?_
        · intro u hu
          obtain ⟨u0, u1⟩ := hu
          go_simp
        try simp only [Act.put, List.setIfInBounds_toArray, List.set_cons_zero, List.set_cons_succ]
        refine AnyS.one (i := 1) (by kernel_rfl) (AnyS.comes rfl (fun K hK => ?_))
        go_simp
        refine (T.out _).mono ?_
        rintro e w3 ⟨rfl, hb3⟩
        have hs3 : _ ≤ w3.heap.size := hb3.size
        try simp at hs3
        have f2 : w3.cell? ⟨b, 0, none⟩ = some (.int .i64 x.1) := cell_kept hb3 f0
        have f3 : w3.cell? ⟨b, 1, none⟩ = some (.int .i64 x.2) := cell_kept hb3 f1
        go_wp2_with fail
        refine hK.out _ _ (fun _ => ⟨f2, f3⟩) ?_
        clear hK K
        try simp only [Act.put, List.setIfInBounds_toArray, List.set_cons_zero, List.set_cons_succ]
        refine AnyS.one (i := 3) (by kernel_rfl) (AnyS.comes rfl (fun K hK => ?_))
        go_simp
        refine (O.out _).mono ?_
        rintro e w4 ⟨rfl, hb4⟩
        have hs4 : _ ≤ w4.heap.size := hb4.size
        try simp at hs4
        have f4 : w4.cell? ⟨b, 0, none⟩ = some (.int .i64 x.1) := cell_kept hb4 f2
        have f5 : w4.cell? ⟨b, 1, none⟩ = some (.int .i64 x.2) := cell_kept hb4 f3
        go_wp2_with fail
        refine hK.out _ _ (fun _ => ⟨f4, f5⟩) ?_
        clear hK K
        try simp only [Act.put, List.setIfInBounds_toArray, List.set_cons_zero, List.set_cons_succ]
        refine AnyS.take (i := 4) (v := .bool false) (T := fun _ => True) [] rfl (by kernel_rfl) (by kernel_rfl) (by kernel_rfl) (by kernel_rfl) (by kernel_rfl) (fun _ _ _ h => h) (fun L u q s => trivial) (fun L u s => OneS.less (by decide) s) (Or.inl ⟨by rfl, ?_⟩) (fun _ => ⟨f4, f5⟩) ?_
        · intro u hu
          clear hu
          go_simp
        try simp only [Act.put, List.setIfInBounds_toArray, List.set_cons_zero, List.set_cons_succ]
        refine AnyS.take (i := 5) (v := undef) (T := fun _ => True) [] rfl (by kernel_rfl) (by kernel_rfl) (by kernel_rfl) (by kernel_rfl) (by kernel_rfl) (fun _ _ _ h => h) (fun L u q s => trivial) (fun L u s => OneS.less (by decide) s) (Or.inr ⟨by rfl, rfl⟩) (fun _ => ⟨f4, f5⟩) ?_
        try simp only [Act.put, List.setIfInBounds_toArray, List.set_cons_zero, List.set_cons_succ]
        refine AnyS.take (i := 6) (v := undef) (T := fun _ => True) [] rfl (by kernel_rfl) (by kernel_rfl) (by kernel_rfl) (by kernel_rfl) (by kernel_rfl) (fun _ _ _ h => h) (fun L u q s => trivial) (fun L u s => OneS.less (by decide) s) (Or.inr ⟨by rfl, rfl⟩) (fun _ => ⟨f4, f5⟩) ?_
        try simp only [Act.put, List.setIfInBounds_toArray, List.set_cons_zero, List.set_cons_succ]
        refine AnyS.one (i := 7) (by kernel_rfl) (AnyS.comes rfl (fun K hK => ?_))
        go_simp
        refine hK.out _ _ (fun _ => ⟨f4, f5⟩) ?_
        clear hK K
        try simp only [Act.put, List.setIfInBounds_toArray, List.set_cons_zero, List.set_cons_succ]
        refine AnyS.one (i := 8) (by kernel_rfl) (AnyS.comes rfl (fun K hK => ?_))
        go_simp
        refine hK.out _ _ (fun _ => ⟨f4, f5⟩) ?_
        clear hK K
        try simp only [Act.put, List.setIfInBounds_toArray, List.set_cons_zero, List.set_cons_succ]
        refine AnyS.one (i := 9) (by kernel_rfl) (AnyS.comes rfl (fun K hK => ?_))
        go_simp
        refine hK.out _ _ (fun h => absurd h (by decide)) ?_
        clear hK K
        try simp only [Act.put, List.setIfInBounds_toArray, List.set_cons_zero, List.set_cons_succ]
        refine AnyS.done (by kernel_rfl) ?_ _
        all_goals (
          have B4 : Below w2.heap.size w2 w4 := belB
          have hJ4 : J (qkP x j) w4 := abide hJ hJ2 B4
          have f2 : w4.cell? ⟨b, 0, none⟩ = some (.int .i64 x.1) := f4
          have f3 : w4.cell? ⟨b, 1, none⟩ = some (.int .i64 x.2) := f5
          gi_wp2
          go_roundw
          case rel => exact ⟨j + 1, by omega, by first | rw [NE] | go_num, f2, f3, by rw [qkP_no o]; exact hJ4⟩
          case measure => first | (simp [intOf]; done) | (simp [intOf]; omega))
      · rw [o] at O
        have lb2 : b < w2.heap.size := World.block_lt_of_cell? _ _ f0
        gi_region_with_o (first
          | (refine ⟨trivial, ?_⟩; gi_at_call 52; refine (callsIn_wide.2 (T.out _)).mono ?_; rintro e w3 ⟨rfl, hb3⟩; have hs3 : _ ≤ w3.heap.size := hb3.size; (try simp at hs3); have f2 : w3.cell? ⟨b, 0, none⟩ = some (.int .i64 x.1) := cell_kept hb3 f0; have f3 : w3.cell? ⟨b, 1, none⟩ = some (.int .i64 x.2) := cell_kept hb3 f1)
          | (refine ⟨trivial, ?_⟩; gi_at_call 110; refine (callsIn_wide.2 (O.out _)).mono ?_; rintro e w4 ⟨rfl, hb4⟩; have hs4 : _ ≤ w4.heap.size := hb4.size; (try simp at hs4); have B4 : Below w2.heap.size w2 w4 := belB; have hJ4 : J (qkP x j) w4 := abide hJ hJ2 B4; obtain ⟨fn, tmps, assign, body, hy, hR⟩ := hY (qkP x j) ⟨qrt x.1 + (j : Int), qk_in x j k⟩ w4 hJ4 (by have := qkP_len x j; omega); dsimp only at hy)
          | (refine hR.mono ?_; rintro e W3 hor; obtain ⟨bb, rfl, HB⟩ := yield_way hor; have HC := Lib.hid HB; clear HB hor))
        all_goals (
          cases bb
          · have hJx3 := HC.out.2 rfl
            gi_wp2
            refine bodyPost_ret (results_none rfl _ _ _) rfl ?_
            exact ⟨⟨_, rfl⟩, .inr ⟨qkP x j ++ [⟨qrt x.1 + (j : Int), qk_in x j k⟩], by rw [← qkP_yes o k]; exact qkP_all (by omega), hJx3⟩⟩
          · obtain ⟨hJ3, hk3⟩ := HC.out.1 rfl
            have f4 : w4.cell? ⟨b, 0, none⟩ = some (.int .i64 x.1) := (B4.cell (p := ⟨b, 0, none⟩) lb2).trans f0
            have f5 : w4.cell? ⟨b, 1, none⟩ = some (.int .i64 x.2) := (B4.cell (p := ⟨b, 1, none⟩) lb2).trans f1
            have f6 := (kp_cell hk3 0).trans f4
            have f7 := (kp_cell hk3 1).trans f5
            gi_wp2
            go_roundw
            case rel => exact ⟨j + 1, by omega, by first | rw [NE] | go_num, f6, f7, by rw [qkP_yes o k]; exact hJ3⟩
            case measure => first | (simp [intOf]; done) | (simp [intOf]; omega))
    · obtain rfl : j = cnt x := by omega
      have K0 : decide (qrt x.1 + ((cnt x : Nat) : Int) ≤ qrt x.2) = false := decide_eq_false (by unfold cnt; omega)
      gi_wp2_with fail
      refine ⟨trivial, ?_⟩
      refine (callsIn_wide.2 (Q2.out _)).mono ?_
      rintro e w2 ⟨rfl, hb2⟩
      have hJ2 : J (qkP x (cnt x)) w2 := abide hJ hJw hb2
      gi_wp2
      go_end0
      exact ⟨⟨_, rfl⟩, .inl ⟨_, rfl, hJ2⟩⟩
end Go.Proofs.YtnhpacaidcjaoaaGreatDoor
namespace Go.Proofs.YtnhpacaidcjaoaaGreatDoor
open Go.ChangeShapes Go.WideShapes Go.ChangeAt Go.RowKit Go.Shelf
set_option linter.unusedVariables false
set_option maxRecDepth 100000
set_option linter.unusedSimpArgs false
set_option maxHeartbeats 1000000
attribute [local go_sem] Oper.semAt_some
theorem own_grown {W W' : World} {row : Option Nat} {b o : Nat} {v : Value} (h : Own W b o v) (hg : W.grownBy W' row) (hr : ∀ r, row = some r → ∃ o : Obj, W.heap[r]? = some o ∧ o.isCells = false) : Own W' b o v :=
  ⟨Go.cell_kept h.1 hg hr, (Go.frozen_kept h.1 hg hr).trans h.2⟩
theorem glo_grown {W W' : World} {row : Option Nat} (h : Glo W) (hg : W.grownBy W' row) (hr : ∀ r, row = some r → ∃ o : Obj, W.heap[r]? = some o ∧ o.isCells = false) : Glo W' :=
  ⟨Go.cell_kept h.1 hg hr, Go.cell_kept h.2.1 hg hr, Go.cell_kept h.2.2.1 hg hr, Go.cell_kept h.2.2.2 hg hr⟩
theorem kp_t {b : Nat} {A B C : World} (h : KpB b A B) (k : KpB b B C) : KpB b A C := Eq.trans k h
theorem kp_b {b : Nat} {w : World} (hb : b < w.heap.size) (W : World) (l : Nat) (o o' : Obj) (hl : w.heap.size ≤ l) (h : W.heap[l]? = some o) (_ : o.isCells = false) (_ : o.isWalk = false) : KpB b W (W.putObj l o') :=
  (grownBy_putObj' W l o').block b (by have := (Array.getElem?_eq_some_iff.1 h).1; omega) (fun e => by cases e; omega)
theorem kp_below {b : Nat} {W W' : World} (h : Below W.heap.size W W') (hb : b < W.heap.size) : KpB b W W' := h.block b hb
theorem kp_set {b : Nat} {W W' : World} {p : Addr} {u : Value} (h : KpB b W W') (n : p.block ≠ b) : KpB b W (W'.setCell p u) := (Below.heap_setCell _ _ _ _ (Ne.symm n)).trans h
theorem ring_eq {s : Iv} (h1 : s.1 = -4294967296) (h2 : s.2 = 4294967296) : s = rng := Prod.ext h1 h2
theorem atQuarterI (k : Int) (w : World) : Calls Tryz.prog 114 #[.agg #[.int .i64 0, .int .i64 1, .int .i64 0, .int .i64 (-1)], .int .i64 k] w fun e w' =>
    e = .returned (.int .i64 (if k % 4 = 1 then 1 else if k % 4 = 3 then -1 else 0)) ∧ Below w.heap.size w w' := by
  have A : bits .and .i64 k 3 = k % 4 := and_mask2 k
  have m : k % 4 = 0 ∨ k % 4 = 1 ∨ k % 4 = 2 ∨ k % 4 = 3 := by omega
  rcases m with m | m | m | m
  · rw [m] at A ⊢
    go_enter Tryz.func114, Tryz.ntmps114
    go_wp2
    go_ret
    exact ⟨rfl, belB⟩
  · rw [m] at A ⊢
    go_enter Tryz.func114, Tryz.ntmps114
    go_wp2
    go_ret
    exact ⟨rfl, belB⟩
  · rw [m] at A ⊢
    go_enter Tryz.func114, Tryz.ntmps114
    go_wp2
    go_ret
    exact ⟨rfl, belB⟩
  · rw [m] at A ⊢
    go_enter Tryz.func114, Tryz.ntmps114
    go_wp2
    go_ret
    exact ⟨rfl, belB⟩
theorem atQ1 {k : Int} (p1 : k % 4 = 1) (w : World) : Calls Tryz.prog 114 #[.agg #[.int .i64 0, .int .i64 1, .int .i64 0, .int .i64 (-1)], .int .i64 k] w fun e w' =>
    e = .returned (.int .i64 1) ∧ Below w.heap.size w w' := by
  have := atQuarterI k w
  rw [if_pos p1] at this
  exact this
theorem atQ3 {k : Int} (p3 : k % 4 = 3) (w : World) : Calls Tryz.prog 114 #[.agg #[.int .i64 0, .int .i64 1, .int .i64 0, .int .i64 (-1)], .int .i64 k] w fun e w' =>
    e = .returned (.int .i64 (-1)) ∧ Below w.heap.size w w' := by
  have := atQuarterI k w
  rw [if_neg (by omega), if_pos p3] at this
  exact this
theorem atQ0 {k : Int} (p1 : ¬ k % 4 = 1) (p3 : ¬ k % 4 = 3) (w : World) : Calls Tryz.prog 114 #[.agg #[.int .i64 0, .int .i64 1, .int .i64 0, .int .i64 (-1)], .int .i64 k] w fun e w' =>
    e = .returned (.int .i64 0) ∧ Below w.heap.size w w' := by
  have := atQuarterI k w
  rw [if_neg p1, if_neg p3] at this
  exact this
theorem sinesOf_no (x : Iv) (q : Int) (hf : fitA x = false) (w : World) (hg : Glo w) : Calls Tryz.prog 76 #[.agg #[.int .i64 x.1, .int .i64 x.2], .int .i64 q] w fun e w' =>
    e = .returned (.agg #[.int .i64 (-4294967296), .int .i64 4294967296]) ∧ Below w.heap.size w w' := by
  have CF := Lib.hid (fun w => hasAngles_any x w)
  rw [hf] at CF
  obtain ⟨g0, g1, g2, g3⟩ := hg
  go_enter Tryz.func76, Tryz.ntmps76
  go_wp2_with fail
  apply wp_scope_straight
  go_wp2_with fail
  refine (CF.out _).mono ?_
  rintro e w1 ⟨rfl, hb1⟩
  have hs1 : _ ≤ w1.heap.size := hb1.size
  try simp at hs1
  have o_r10 : Own (w1) (w.heap.size + 1 + 1) 0 (.int .i64 0) := ownJ; have r10 := o_r10.1; have f_r10 := o_r10.2; have o_r11 : Own (w1) (w.heap.size + 1 + 1) 1 (.int .i64 0) := ownJ; have r11 := o_r11.1; have f_r11 := o_r11.2
  have k0 : w1.cell? ⟨0, 0, none⟩ = some (.int .i64 (-4294967296)) := celK
  have k1 : w1.cell? ⟨0, 1, none⟩ = some (.int .i64 4294967296) := celK
  go_wp2
  try simp only [Exit.noGoto_ret]
  exact bodyPost_ret (v := .agg #[.int .i64 (-4294967296), .int .i64 4294967296]) (by simp [results, Tryz.results76, go_sem, r10, r11]) rfl ⟨rfl, belB⟩
set_option maxHeartbeats 8000000 in
theorem sinesOf_yes (x : Iv) (hx : Ok x) (q : Int) (q0 : 0 ≤ q) (q1 : q ≤ 1) (hf : fitA x = true) (w : World) (hg : Glo w) : Calls Tryz.prog 76 #[.agg #[.int .i64 x.1, .int .i64 x.2], .int .i64 q] w fun e w' =>
    e = .returned (.agg #[.int .i64 (sinV x q).1, .int .i64 (sinV x q).2]) ∧ Below w.heap.size w w' := by
  have CF := Lib.hid (fun w => hasAngles_any x w)
  rw [hf] at CF
  have A1 := Lib.hid (fun w hg => sineAt_any x.1 q hx.1 q0 q1 w hg)
  have A2 := Lib.hid (fun w hg => sineAt_any x.2 q hx.2 q0 q1 w hg)
  have H := Lib.hid (fun w => HullI_any (sinA x.1 q) (sinA x.2 q) w)
  have QI := Lib.hid (fun w => quartersIn_any x w)
  have EV := Lib.hid (show sinV x q = rsF q (hulI (sinA x.1 q) (sinA x.2 q)) (qkL x) from if_pos hf)
  generalize sinV x q = Y at *
  generalize hulI (sinA x.1 q) (sinA x.2 q) = s0 at *
  generalize sinA x.1 q = a1 at *
  generalize sinA x.2 q = a2 at *
  clear hf
  refine (callsIn_wide (n := 9)).1 ?_
  refine callsIn_of_wp_marks Tryz.func76 rfl trivial ?_ rfl
  simp only [Tryz.ntmps76, List.size_toArray, List.length_cons, List.length_nil, Nat.reduceAdd, Nat.reduceSub, Array.replicate_succ, Array.replicate_zero, List.push_toArray, List.append_toArray, List.nil_append, List.cons_append]
  refine wpIn_wide.2 ?_
  go_wp2_with fail
  apply wp_scope_straight
  go_wp2_with fail
  refine (CF.out _).mono ?_
  rintro e w1 ⟨rfl, hb1⟩
  have hs1 : _ ≤ w1.heap.size := hb1.size
  try simp at hs1
  have o_x10 : Own (w1) (w.heap.size) 0 (.int .i64 x.1) := ownJ; have x10 := o_x10.1; have f_x10 := o_x10.2; have o_x11 : Own (w1) (w.heap.size) 1 (.int .i64 x.2) := ownJ; have x11 := o_x11.1; have f_x11 := o_x11.2
  have o_q10 : Own (w1) (w.heap.size + 1) 0 (.int .i64 q) := ownJ; have q10 := o_q10.1; have f_q10 := o_q10.2
  have o_r10 : Own (w1) (w.heap.size + 1 + 1) 0 (.int .i64 0) := ownJ; have r10 := o_r10.1; have f_r10 := o_r10.2; have o_r11 : Own (w1) (w.heap.size + 1 + 1) 1 (.int .i64 0) := ownJ; have r11 := o_r11.1; have f_r11 := o_r11.2
  have zz1 : w.heap.size < w1.heap.size := World.block_lt_of_cell? _ _ x10; obtain ⟨zz1a, zz1b, zz1c, zz1d, zz1e, zz1f, zz1g, zz1h, zz1i⟩ := below_more zz1; have zn1 : ¬ w.heap.size = w1.heap.size := Nat.ne_of_lt zz1; have zm1 : ¬ w1.heap.size = w.heap.size := Nat.ne_of_gt zz1
  have zz2 : w.heap.size + 1 < w1.heap.size := World.block_lt_of_cell? _ _ q10; obtain ⟨zz2a, zz2b, zz2c, zz2d, zz2e, zz2f, zz2g, zz2h, zz2i⟩ := below_more zz2; have zn2 : ¬ w.heap.size + 1 = w1.heap.size := Nat.ne_of_lt zz2; have zm2 : ¬ w1.heap.size = w.heap.size + 1 := Nat.ne_of_gt zz2
  have zz3 : w.heap.size + 1 + 1 < w1.heap.size := World.block_lt_of_cell? _ _ r10; obtain ⟨zz3a, zz3b, zz3c, zz3d, zz3e, zz3f, zz3g, zz3h, zz3i⟩ := below_more zz3; have zn3 : ¬ w.heap.size + 1 + 1 = w1.heap.size := Nat.ne_of_lt zz3; have zm3 : ¬ w1.heap.size = w.heap.size + 1 + 1 := Nat.ne_of_gt zz3
  have hg1 : Glo w1 := (by repeat (first | (with_reducible assumption) | (with_reducible refine Glo.drew ?_) | (with_reducible refine Glo.kept ?_ (by assumption)) | (with_reducible refine Glo.alloc ?_ _)))
  obtain ⟨g0, g1, g2, g3⟩ := id hg1
  have l0 : 0 < w1.heap.size := World.block_lt_of_cell? _ _ g0
  have l1 : 1 < w1.heap.size := World.block_lt_of_cell? _ _ g2
  have cx0 := o_x10.1
  have cx1 := o_x11.1
  have cq0 := o_q10.1
  clear g0 g1 g2 g3
  go_wp2_with fail
  refine Code.wp_mono (Q := fun e a' w' => e = .normal ∧ ∃ h : Nat, a' = { tmps := #[.agg #[.int .i64 x.1, .int .i64 x.2], .int .i64 q, .pointer (some ⟨w.heap.size, 0, none⟩), .pointer (some ⟨w.heap.size + 1, 0, none⟩), .pointer (some ⟨w.heap.size + 1 + 1, 0, none⟩), .pointer (some ⟨h, 0, none⟩), undef, undef, .agg #[.int .i64 x.1, .int .i64 x.2], .bool true, .bool false, undef, .pointer (some ⟨w.heap.size, 0, none⟩), .int .i64 x.1, .int .i64 q, .agg #[.int .i64 a1.1, .int .i64 a1.2], .pointer (some ⟨w.heap.size, 1, none⟩), .int .i64 x.2, .int .i64 q, .agg #[.int .i64 a2.1, .int .i64 a2.2], .agg #[.int .i64 s0.1, .int .i64 s0.2], undef, undef, undef, undef, undef, undef, undef, undef, undef, undef, undef, undef, undef, undef, undef, undef, undef, undef, undef, undef], defers := [] } ∧ w.heap.size + 1 + 1 < h ∧ Own w' h 0 (.int .i64 s0.1) ∧ Own w' h 1 (.int .i64 s0.2) ∧ Own w' w.heap.size 0 (.int .i64 x.1) ∧ Own w' w.heap.size 1 (.int .i64 x.2) ∧ Own w' (w.heap.size + 1) 0 (.int .i64 q) ∧ Own w' (w.heap.size + 1 + 1) 0 (.int .i64 0) ∧ Own w' (w.heap.size + 1 + 1) 1 (.int .i64 0) ∧ Glo w' ∧ Below w.heap.size w w') ?cont ?reg
  case reg =>
    refine AnyS.region (S := OneS 10 (fun u => u.cell? ⟨w.heap.size, 0, none⟩ = some (.int .i64 x.1) ∧ u.cell? ⟨w.heap.size, 1, none⟩ = some (.int .i64 x.2) ∧ u.cell? ⟨w.heap.size + 1, 0, none⟩ = some (.int .i64 q))) (by kernel_rfl) (show AnyS _ _ _ _ _ 11 _ _ _ from ?_)
    refine AnyS.take (i := 0) (v := .pointer (some ⟨w.heap.size, 0, none⟩)) (T := fun _ => True) [] rfl (by kernel_rfl) (by kernel_rfl) (by kernel_rfl) (by kernel_rfl) (by kernel_rfl) (fun _ _ _ h => absurd h.1 (fun k => by cases k)) (fun L u q s => trivial) (fun L u s => OneS.less (by decide) s) (Or.inl ⟨by rfl, ?_⟩) (fun _ => ⟨cx0, cx1, cq0⟩) ?_
    · intro u hu
      clear hu
      go_simp
    try simp only [Act.put, List.setIfInBounds_toArray, List.set_cons_zero, List.set_cons_succ]
    refine AnyS.take (i := 1) (v := .int .i64 x.1) (T := fun u => u.cell? ⟨w.heap.size, 0, none⟩ = some (.int .i64 x.1) ∧ u.cell? ⟨w.heap.size, 1, none⟩ = some (.int .i64 x.2) ∧ u.cell? ⟨w.heap.size + 1, 0, none⟩ = some (.int .i64 q)) [3, 8, 10] rfl (by kernel_rfl) (by kernel_rfl) (by kernel_rfl) (by kernel_rfl) (by kernel_rfl) (fun _ _ _ h => absurd h.1 (fun k => by cases k)) (fun L u q s => s (q 10 (by simp))) (fun L u s => OneS.less (by decide) s) (Or.inl ⟨by rfl, ?_⟩) (fun _ => ⟨cx0, cx1, cq0⟩) ?_
    · intro u hu
      obtain ⟨u0, u1, u2⟩ := hu
      go_simp
    try simp only [Act.put, List.setIfInBounds_toArray, List.set_cons_zero, List.set_cons_succ]
    refine AnyS.take (i := 2) (v := .int .i64 q) (T := fun u => u.cell? ⟨w.heap.size, 0, none⟩ = some (.int .i64 x.1) ∧ u.cell? ⟨w.heap.size, 1, none⟩ = some (.int .i64 x.2) ∧ u.cell? ⟨w.heap.size + 1, 0, none⟩ = some (.int .i64 q)) [3, 8, 10] rfl (by kernel_rfl) (by kernel_rfl) (by kernel_rfl) (by kernel_rfl) (by kernel_rfl) (fun _ _ _ h => absurd h.1 (fun k => by cases k)) (fun L u q s => s (q 10 (by simp))) (fun L u s => OneS.less (by decide) s) (Or.inl ⟨by rfl, ?_⟩) (fun _ => ⟨cx0, cx1, cq0⟩) ?_
    · intro u hu
      obtain ⟨u0, u1, u2⟩ := hu
      go_simp
    try simp only [Act.put, List.setIfInBounds_toArray, List.set_cons_zero, List.set_cons_succ]
    refine AnyS.take (i := 4) (v := .pointer (some ⟨w.heap.size, 1, none⟩)) (T := fun _ => True) [] rfl (by kernel_rfl) (by kernel_rfl) (by kernel_rfl) (by kernel_rfl) (by kernel_rfl) (fun _ _ _ h => absurd h.1 (fun k => by cases k)) (fun L u q s => trivial) (fun L u s => OneS.less (by decide) s) (Or.inl ⟨by rfl, ?_⟩) (fun _ => ⟨cx0, cx1, cq0⟩) ?_
    · intro u hu
      clear hu
      go_simp
    try simp only [Act.put, List.setIfInBounds_toArray, List.set_cons_zero, List.set_cons_succ]
    refine AnyS.take (i := 5) (v := .int .i64 x.2) (T := fun u => u.cell? ⟨w.heap.size, 0, none⟩ = some (.int .i64 x.1) ∧ u.cell? ⟨w.heap.size, 1, none⟩ = some (.int .i64 x.2) ∧ u.cell? ⟨w.heap.size + 1, 0, none⟩ = some (.int .i64 q)) [7, 8, 10] rfl (by kernel_rfl) (by kernel_rfl) (by kernel_rfl) (by kernel_rfl) (by kernel_rfl) (fun _ _ _ h => absurd h.1 (fun k => by cases k)) (fun L u q s => s (q 10 (by simp))) (fun L u s => OneS.less (by decide) s) (Or.inl ⟨by rfl, ?_⟩) (fun _ => ⟨cx0, cx1, cq0⟩) ?_
    · intro u hu
      obtain ⟨u0, u1, u2⟩ := hu
      go_simp
    try simp only [Act.put, List.setIfInBounds_toArray, List.set_cons_zero, List.set_cons_succ]
    refine AnyS.take (i := 6) (v := .int .i64 q) (T := fun u => u.cell? ⟨w.heap.size, 0, none⟩ = some (.int .i64 x.1) ∧ u.cell? ⟨w.heap.size, 1, none⟩ = some (.int .i64 x.2) ∧ u.cell? ⟨w.heap.size + 1, 0, none⟩ = some (.int .i64 q)) [7, 8, 10] rfl (by kernel_rfl) (by kernel_rfl) (by kernel_rfl) (by kernel_rfl) (by kernel_rfl) (fun _ _ _ h => absurd h.1 (fun k => by cases k)) (fun L u q s => s (q 10 (by simp))) (fun L u s => OneS.less (by decide) s) (Or.inl ⟨by rfl, ?_⟩) (fun _ => ⟨cx0, cx1, cq0⟩) ?_
    · intro u hu
      obtain ⟨u0, u1, u2⟩ := hu
      go_simp
    try simp only [Act.put, List.setIfInBounds_toArray, List.set_cons_zero, List.set_cons_succ]
    refine AnyS.two (i := 3) (j := 9) (by kernel_rfl) (AnyS.comes rfl (fun K hK => ?_)) (AnyS.comes rfl (fun K hK => ?_))
    · go_simp
      refine (A1.out _ (by repeat (first | (with_reducible assumption) | (with_reducible refine Glo.drew ?_) | (with_reducible refine Glo.kept ?_ (by assumption)) | (with_reducible refine Glo.alloc ?_ _)))).mono ?_
      rintro e w41 ⟨rfl, hb41⟩
      have hs41 : _ ≤ w41.heap.size := hb41.size
      try simp at hs41
      have o_h0_41 : Own w41 w.heap.size 0 (.int .i64 x.1) := own_kept hb41 (own_drew o_x10)
      have o_h1_41 : Own w41 w.heap.size 1 (.int .i64 x.2) := own_kept hb41 (own_drew o_x11)
      have o_h2_41 : Own w41 (w.heap.size + 1) 0 (.int .i64 q) := own_kept hb41 (own_drew o_q10)
      have o_r0_41 : Own w41 (w.heap.size + 1 + 1) 0 (.int .i64 0) := own_kept hb41 (own_drew o_r10)
      have o_r1_41 : Own w41 (w.heap.size + 1 + 1) 1 (.int .i64 0) := own_kept hb41 (own_drew o_r11)
      go_wp2_with fail
      refine hK.out _ _ (fun _ => ⟨o_h0_41.1, o_h1_41.1, o_h2_41.1⟩) ?_
      clear hK K
      try simp only [Act.put, List.setIfInBounds_toArray, List.set_cons_zero, List.set_cons_succ]
      refine AnyS.two (i := 7) (j := 9) (by kernel_rfl) (AnyS.comes rfl (fun K hK => ?_)) (AnyS.comes rfl (fun K hK => ?_))
      · go_simp
        refine (A2.out _ (by repeat (first | (with_reducible assumption) | (with_reducible refine Glo.drew ?_) | (with_reducible refine Glo.kept ?_ (by assumption)) | (with_reducible refine Glo.alloc ?_ _)))).mono ?_
        rintro e w42 ⟨rfl, hb42⟩
        have hs42 : _ ≤ w42.heap.size := hb42.size
        try simp at hs42
        have o_h0_42 : Own w42 w.heap.size 0 (.int .i64 x.1) := own_kept hb42 o_h0_41
        have o_h1_42 : Own w42 w.heap.size 1 (.int .i64 x.2) := own_kept hb42 o_h1_41
        have o_h2_42 : Own w42 (w.heap.size + 1) 0 (.int .i64 q) := own_kept hb42 o_h2_41
        have o_r0_42 : Own w42 (w.heap.size + 1 + 1) 0 (.int .i64 0) := own_kept hb42 o_r0_41
        have o_r1_42 : Own w42 (w.heap.size + 1 + 1) 1 (.int .i64 0) := own_kept hb42 o_r1_41
        go_wp2_with fail
        refine hK.out _ _ (fun _ => ⟨o_h0_42.1, o_h1_42.1, o_h2_42.1⟩) ?_
        clear hK K
        try simp only [Act.put, List.setIfInBounds_toArray, List.set_cons_zero, List.set_cons_succ]
        refine AnyS.two (i := 8) (j := 9) (by kernel_rfl) (AnyS.comes rfl (fun K hK => ?_)) (AnyS.comes rfl (fun K hK => ?_))
        · go_simp
          refine (H.out _).mono ?_
          rintro e w43 ⟨rfl, hb43⟩
          have hs43 : _ ≤ w43.heap.size := hb43.size
          try simp at hs43
          have o_h0_43 : Own w43 w.heap.size 0 (.int .i64 x.1) := own_kept hb43 o_h0_42
          have o_h1_43 : Own w43 w.heap.size 1 (.int .i64 x.2) := own_kept hb43 o_h1_42
          have o_h2_43 : Own w43 (w.heap.size + 1) 0 (.int .i64 q) := own_kept hb43 o_h2_42
          have o_r0_43 : Own w43 (w.heap.size + 1 + 1) 0 (.int .i64 0) := own_kept hb43 o_r0_42
          have o_r1_43 : Own w43 (w.heap.size + 1 + 1) 1 (.int .i64 0) := own_kept hb43 o_r1_42
          go_wp2_with fail
          refine hK.out _ _ (fun _ => ⟨o_h0_43.1, o_h1_43.1, o_h2_43.1⟩) ?_
          clear hK K
          try simp only [Act.put, List.setIfInBounds_toArray, List.set_cons_zero, List.set_cons_succ]
          refine AnyS.one (i := 9) (by kernel_rfl) (AnyS.comes rfl (fun K hK => ?_))
          go_simp
          have o_h0_93 : Own ((w43.alloc (.cells #[.int .i64 0, .int .i64 0] 23))) w.heap.size 0 (.int .i64 x.1) := own_alloc o_h0_43
          have o_h1_93 : Own ((w43.alloc (.cells #[.int .i64 0, .int .i64 0] 23))) w.heap.size 1 (.int .i64 x.2) := own_alloc o_h1_43
          have o_h2_93 : Own ((w43.alloc (.cells #[.int .i64 0, .int .i64 0] 23))) (w.heap.size + 1) 0 (.int .i64 q) := own_alloc o_h2_43
          have o_r0_93 : Own ((w43.alloc (.cells #[.int .i64 0, .int .i64 0] 23))) (w.heap.size + 1 + 1) 0 (.int .i64 0) := own_alloc o_r0_43
          have o_r1_93 : Own ((w43.alloc (.cells #[.int .i64 0, .int .i64 0] 23))) (w.heap.size + 1 + 1) 1 (.int .i64 0) := own_alloc o_r1_43
          have o_n0_93 : Own ((w43.alloc (.cells #[.int .i64 0, .int .i64 0] 23))) w43.heap.size 0 (.int .i64 0) := ⟨by simp [go_sem], by simp [go_sem]⟩
          have o_n1_93 : Own ((w43.alloc (.cells #[.int .i64 0, .int .i64 0] 23))) w43.heap.size 1 (.int .i64 0) := ⟨by simp [go_sem], by simp [go_sem]⟩
          refine hK.out _ _ (fun _ => ⟨o_h0_93.1, o_h1_93.1, o_h2_93.1⟩) ?_
          clear hK K
          try simp only [Act.put, List.setIfInBounds_toArray, List.set_cons_zero, List.set_cons_succ]
          obtain ⟨dn0, en0⟩ := id o_n0_93
          obtain ⟨dn1, en1⟩ := id o_n1_93
          refine AnyS.one (i := 10) (by kernel_rfl) (AnyS.comes rfl (fun K hK => ?_))
          go_simp
          refine hK.out _ _ (fun h => absurd h (by decide)) ?_
          clear hK K
          try simp only [Act.put, List.setIfInBounds_toArray, List.set_cons_zero, List.set_cons_succ]
          refine AnyS.done (by kernel_rfl) ?_ _
          have ls := World.block_lt_of_cell? _ _ o_r0_43.1
          have ls0 : 0 < w43.heap.size := by omega
          have ls1 : 1 < w43.heap.size := by omega
          exact ⟨rfl, _, rfl, (by first | exact ls | omega), ⟨by simp [go_sem], by simp [go_sem]⟩, ⟨by simp [go_sem], by simp [go_sem]⟩, own_alloc o_h0_43, own_alloc o_h1_43, own_alloc o_h2_43, own_alloc o_r0_43, own_alloc o_r1_43, (by repeat (first | (with_reducible assumption) | (with_reducible refine Glo.drew ?_) | (with_reducible refine Glo.kept ?_ (by assumption)) | (with_reducible refine Glo.alloc ?_ _))), belB⟩
        · go_simp
          have o_h0_92 : Own ((w42.alloc (.cells #[.int .i64 0, .int .i64 0] 23))) w.heap.size 0 (.int .i64 x.1) := own_alloc o_h0_42
          have o_h1_92 : Own ((w42.alloc (.cells #[.int .i64 0, .int .i64 0] 23))) w.heap.size 1 (.int .i64 x.2) := own_alloc o_h1_42
          have o_h2_92 : Own ((w42.alloc (.cells #[.int .i64 0, .int .i64 0] 23))) (w.heap.size + 1) 0 (.int .i64 q) := own_alloc o_h2_42
          have o_r0_92 : Own ((w42.alloc (.cells #[.int .i64 0, .int .i64 0] 23))) (w.heap.size + 1 + 1) 0 (.int .i64 0) := own_alloc o_r0_42
          have o_r1_92 : Own ((w42.alloc (.cells #[.int .i64 0, .int .i64 0] 23))) (w.heap.size + 1 + 1) 1 (.int .i64 0) := own_alloc o_r1_42
          have o_n0_92 : Own ((w42.alloc (.cells #[.int .i64 0, .int .i64 0] 23))) w42.heap.size 0 (.int .i64 0) := ⟨by simp [go_sem], by simp [go_sem]⟩
          have o_n1_92 : Own ((w42.alloc (.cells #[.int .i64 0, .int .i64 0] 23))) w42.heap.size 1 (.int .i64 0) := ⟨by simp [go_sem], by simp [go_sem]⟩
          refine hK.out _ _ (fun _ => ⟨o_h0_92.1, o_h1_92.1, o_h2_92.1⟩) ?_
          clear hK K
          try simp only [Act.put, List.setIfInBounds_toArray, List.set_cons_zero, List.set_cons_succ]
          refine AnyS.one (i := 8) (by kernel_rfl) (AnyS.comes rfl (fun K hK => ?_))
          go_simp
          refine (H.out _).mono ?_
          rintro e w93 ⟨rfl, hb93⟩
          have hs93 : _ ≤ w93.heap.size := hb93.size
          try simp at hs93
          have o_h0_93 : Own w93 w.heap.size 0 (.int .i64 x.1) := own_kept hb93 o_h0_92
          have o_h1_93 : Own w93 w.heap.size 1 (.int .i64 x.2) := own_kept hb93 o_h1_92
          have o_h2_93 : Own w93 (w.heap.size + 1) 0 (.int .i64 q) := own_kept hb93 o_h2_92
          have o_r0_93 : Own w93 (w.heap.size + 1 + 1) 0 (.int .i64 0) := own_kept hb93 o_r0_92
          have o_r1_93 : Own w93 (w.heap.size + 1 + 1) 1 (.int .i64 0) := own_kept hb93 o_r1_92
          have o_n0_93 : Own w93 w42.heap.size 0 (.int .i64 0) := own_kept hb93 o_n0_92
          have o_n1_93 : Own w93 w42.heap.size 1 (.int .i64 0) := own_kept hb93 o_n1_92
          go_wp2_with fail
          refine hK.out _ _ (fun _ => ⟨o_h0_93.1, o_h1_93.1, o_h2_93.1⟩) ?_
          clear hK K
          try simp only [Act.put, List.setIfInBounds_toArray, List.set_cons_zero, List.set_cons_succ]
          obtain ⟨dn0, en0⟩ := id o_n0_93
          obtain ⟨dn1, en1⟩ := id o_n1_93
          refine AnyS.one (i := 10) (by kernel_rfl) (AnyS.comes rfl (fun K hK => ?_))
          go_simp
          refine hK.out _ _ (fun h => absurd h (by decide)) ?_
          clear hK K
          try simp only [Act.put, List.setIfInBounds_toArray, List.set_cons_zero, List.set_cons_succ]
          refine AnyS.done (by kernel_rfl) ?_ _
          have ls := World.block_lt_of_cell? _ _ o_r0_42.1
          have ls0 : 0 < w42.heap.size := by omega
          have ls1 : 1 < w42.heap.size := by omega
          exact ⟨rfl, _, rfl, (by first | exact ls | omega), own_next (by decide) (own_put o_n0_93), own_put (own_next (by decide) o_n1_93), own_far (by first | (simp; done) | (simp; omega) | (dsimp only; omega)) (own_far (by first | (simp; done) | (simp; omega) | (dsimp only; omega)) o_h0_93), own_far (by first | (simp; done) | (simp; omega) | (dsimp only; omega)) (own_far (by first | (simp; done) | (simp; omega) | (dsimp only; omega)) o_h1_93), own_far (by first | (simp; done) | (simp; omega) | (dsimp only; omega)) (own_far (by first | (simp; done) | (simp; omega) | (dsimp only; omega)) o_h2_93), own_far (by first | (simp; done) | (simp; omega) | (dsimp only; omega)) (own_far (by first | (simp; done) | (simp; omega) | (dsimp only; omega)) o_r0_93), own_far (by first | (simp; done) | (simp; omega) | (dsimp only; omega)) (own_far (by first | (simp; done) | (simp; omega) | (dsimp only; omega)) o_r1_93), Glo.set (Glo.set (by repeat (first | (with_reducible assumption) | (with_reducible refine Glo.drew ?_) | (with_reducible refine Glo.kept ?_ (by assumption)) | (with_reducible refine Glo.alloc ?_ _))) (by dsimp only; omega) (by dsimp only; omega)) (by dsimp only; omega) (by dsimp only; omega), belB⟩
      · go_simp
        have o_h0_91 : Own ((w41.alloc (.cells #[.int .i64 0, .int .i64 0] 23))) w.heap.size 0 (.int .i64 x.1) := own_alloc o_h0_41
        have o_h1_91 : Own ((w41.alloc (.cells #[.int .i64 0, .int .i64 0] 23))) w.heap.size 1 (.int .i64 x.2) := own_alloc o_h1_41
        have o_h2_91 : Own ((w41.alloc (.cells #[.int .i64 0, .int .i64 0] 23))) (w.heap.size + 1) 0 (.int .i64 q) := own_alloc o_h2_41
        have o_r0_91 : Own ((w41.alloc (.cells #[.int .i64 0, .int .i64 0] 23))) (w.heap.size + 1 + 1) 0 (.int .i64 0) := own_alloc o_r0_41
        have o_r1_91 : Own ((w41.alloc (.cells #[.int .i64 0, .int .i64 0] 23))) (w.heap.size + 1 + 1) 1 (.int .i64 0) := own_alloc o_r1_41
        have o_n0_91 : Own ((w41.alloc (.cells #[.int .i64 0, .int .i64 0] 23))) w41.heap.size 0 (.int .i64 0) := ⟨by simp [go_sem], by simp [go_sem]⟩
        have o_n1_91 : Own ((w41.alloc (.cells #[.int .i64 0, .int .i64 0] 23))) w41.heap.size 1 (.int .i64 0) := ⟨by simp [go_sem], by simp [go_sem]⟩
        refine hK.out _ _ (fun _ => ⟨o_h0_91.1, o_h1_91.1, o_h2_91.1⟩) ?_
        clear hK K
        try simp only [Act.put, List.setIfInBounds_toArray, List.set_cons_zero, List.set_cons_succ]
        refine AnyS.one (i := 7) (by kernel_rfl) (AnyS.comes rfl (fun K hK => ?_))
        go_simp
        refine (A2.out _ (by repeat (first | (with_reducible assumption) | (with_reducible refine Glo.drew ?_) | (with_reducible refine Glo.kept ?_ (by assumption)) | (with_reducible refine Glo.alloc ?_ _)))).mono ?_
        rintro e w92 ⟨rfl, hb92⟩
        have hs92 : _ ≤ w92.heap.size := hb92.size
        try simp at hs92
        have o_h0_92 : Own w92 w.heap.size 0 (.int .i64 x.1) := own_kept hb92 o_h0_91
        have o_h1_92 : Own w92 w.heap.size 1 (.int .i64 x.2) := own_kept hb92 o_h1_91
        have o_h2_92 : Own w92 (w.heap.size + 1) 0 (.int .i64 q) := own_kept hb92 o_h2_91
        have o_r0_92 : Own w92 (w.heap.size + 1 + 1) 0 (.int .i64 0) := own_kept hb92 o_r0_91
        have o_r1_92 : Own w92 (w.heap.size + 1 + 1) 1 (.int .i64 0) := own_kept hb92 o_r1_91
        have o_n0_92 : Own w92 w41.heap.size 0 (.int .i64 0) := own_kept hb92 o_n0_91
        have o_n1_92 : Own w92 w41.heap.size 1 (.int .i64 0) := own_kept hb92 o_n1_91
        go_wp2_with fail
        refine hK.out _ _ (fun _ => ⟨o_h0_92.1, o_h1_92.1, o_h2_92.1⟩) ?_
        clear hK K
        try simp only [Act.put, List.setIfInBounds_toArray, List.set_cons_zero, List.set_cons_succ]
        refine AnyS.one (i := 8) (by kernel_rfl) (AnyS.comes rfl (fun K hK => ?_))
        go_simp
        refine (H.out _).mono ?_
        rintro e w93 ⟨rfl, hb93⟩
        have hs93 : _ ≤ w93.heap.size := hb93.size
        try simp at hs93
        have o_h0_93 : Own w93 w.heap.size 0 (.int .i64 x.1) := own_kept hb93 o_h0_92
        have o_h1_93 : Own w93 w.heap.size 1 (.int .i64 x.2) := own_kept hb93 o_h1_92
        have o_h2_93 : Own w93 (w.heap.size + 1) 0 (.int .i64 q) := own_kept hb93 o_h2_92
        have o_r0_93 : Own w93 (w.heap.size + 1 + 1) 0 (.int .i64 0) := own_kept hb93 o_r0_92
        have o_r1_93 : Own w93 (w.heap.size + 1 + 1) 1 (.int .i64 0) := own_kept hb93 o_r1_92
        have o_n0_93 : Own w93 w41.heap.size 0 (.int .i64 0) := own_kept hb93 o_n0_92
        have o_n1_93 : Own w93 w41.heap.size 1 (.int .i64 0) := own_kept hb93 o_n1_92
        go_wp2_with fail
        refine hK.out _ _ (fun _ => ⟨o_h0_93.1, o_h1_93.1, o_h2_93.1⟩) ?_
        clear hK K
        try simp only [Act.put, List.setIfInBounds_toArray, List.set_cons_zero, List.set_cons_succ]
        obtain ⟨dn0, en0⟩ := id o_n0_93
        obtain ⟨dn1, en1⟩ := id o_n1_93
        refine AnyS.one (i := 10) (by kernel_rfl) (AnyS.comes rfl (fun K hK => ?_))
        go_simp
        refine hK.out _ _ (fun h => absurd h (by decide)) ?_
        clear hK K
        try simp only [Act.put, List.setIfInBounds_toArray, List.set_cons_zero, List.set_cons_succ]
        refine AnyS.done (by kernel_rfl) ?_ _
        have ls := World.block_lt_of_cell? _ _ o_r0_41.1
        have ls0 : 0 < w41.heap.size := by omega
        have ls1 : 1 < w41.heap.size := by omega
        exact ⟨rfl, _, rfl, (by first | exact ls | omega), own_next (by decide) (own_put o_n0_93), own_put (own_next (by decide) o_n1_93), own_far (by first | (simp; done) | (simp; omega) | (dsimp only; omega)) (own_far (by first | (simp; done) | (simp; omega) | (dsimp only; omega)) o_h0_93), own_far (by first | (simp; done) | (simp; omega) | (dsimp only; omega)) (own_far (by first | (simp; done) | (simp; omega) | (dsimp only; omega)) o_h1_93), own_far (by first | (simp; done) | (simp; omega) | (dsimp only; omega)) (own_far (by first | (simp; done) | (simp; omega) | (dsimp only; omega)) o_h2_93), own_far (by first | (simp; done) | (simp; omega) | (dsimp only; omega)) (own_far (by first | (simp; done) | (simp; omega) | (dsimp only; omega)) o_r0_93), own_far (by first | (simp; done) | (simp; omega) | (dsimp only; omega)) (own_far (by first | (simp; done) | (simp; omega) | (dsimp only; omega)) o_r1_93), Glo.set (Glo.set (by repeat (first | (with_reducible assumption) | (with_reducible refine Glo.drew ?_) | (with_reducible refine Glo.kept ?_ (by assumption)) | (with_reducible refine Glo.alloc ?_ _))) (by dsimp only; omega) (by dsimp only; omega)) (by dsimp only; omega) (by dsimp only; omega), belB⟩
    · go_simp
      have o_h0_90 : Own ((w1.alloc (.cells #[.int .i64 0, .int .i64 0] 23)).drew) w.heap.size 0 (.int .i64 x.1) := own_drew (own_alloc o_x10)
      have o_h1_90 : Own ((w1.alloc (.cells #[.int .i64 0, .int .i64 0] 23)).drew) w.heap.size 1 (.int .i64 x.2) := own_drew (own_alloc o_x11)
      have o_h2_90 : Own ((w1.alloc (.cells #[.int .i64 0, .int .i64 0] 23)).drew) (w.heap.size + 1) 0 (.int .i64 q) := own_drew (own_alloc o_q10)
      have o_r0_90 : Own ((w1.alloc (.cells #[.int .i64 0, .int .i64 0] 23)).drew) (w.heap.size + 1 + 1) 0 (.int .i64 0) := own_drew (own_alloc o_r10)
      have o_r1_90 : Own ((w1.alloc (.cells #[.int .i64 0, .int .i64 0] 23)).drew) (w.heap.size + 1 + 1) 1 (.int .i64 0) := own_drew (own_alloc o_r11)
      have o_n0_90 : Own ((w1.alloc (.cells #[.int .i64 0, .int .i64 0] 23)).drew) w1.heap.size 0 (.int .i64 0) := ⟨by simp [go_sem], by simp [go_sem]⟩
      have o_n1_90 : Own ((w1.alloc (.cells #[.int .i64 0, .int .i64 0] 23)).drew) w1.heap.size 1 (.int .i64 0) := ⟨by simp [go_sem], by simp [go_sem]⟩
      refine hK.out _ _ (fun _ => ⟨o_h0_90.1, o_h1_90.1, o_h2_90.1⟩) ?_
      clear hK K
      try simp only [Act.put, List.setIfInBounds_toArray, List.set_cons_zero, List.set_cons_succ]
      refine AnyS.one (i := 3) (by kernel_rfl) (AnyS.comes rfl (fun K hK => ?_))
      go_simp
      refine (A1.out _ (by repeat (first | (with_reducible assumption) | (with_reducible refine Glo.drew ?_) | (with_reducible refine Glo.kept ?_ (by assumption)) | (with_reducible refine Glo.alloc ?_ _)))).mono ?_
      rintro e w91 ⟨rfl, hb91⟩
      have hs91 : _ ≤ w91.heap.size := hb91.size
      try simp at hs91
      have o_h0_91 : Own w91 w.heap.size 0 (.int .i64 x.1) := own_kept hb91 o_h0_90
      have o_h1_91 : Own w91 w.heap.size 1 (.int .i64 x.2) := own_kept hb91 o_h1_90
      have o_h2_91 : Own w91 (w.heap.size + 1) 0 (.int .i64 q) := own_kept hb91 o_h2_90
      have o_r0_91 : Own w91 (w.heap.size + 1 + 1) 0 (.int .i64 0) := own_kept hb91 o_r0_90
      have o_r1_91 : Own w91 (w.heap.size + 1 + 1) 1 (.int .i64 0) := own_kept hb91 o_r1_90
      have o_n0_91 : Own w91 w1.heap.size 0 (.int .i64 0) := own_kept hb91 o_n0_90
      have o_n1_91 : Own w91 w1.heap.size 1 (.int .i64 0) := own_kept hb91 o_n1_90
      go_wp2_with fail
      refine hK.out _ _ (fun _ => ⟨o_h0_91.1, o_h1_91.1, o_h2_91.1⟩) ?_
      clear hK K
      try simp only [Act.put, List.setIfInBounds_toArray, List.set_cons_zero, List.set_cons_succ]
      refine AnyS.one (i := 7) (by kernel_rfl) (AnyS.comes rfl (fun K hK => ?_))
      go_simp
      refine (A2.out _ (by repeat (first | (with_reducible assumption) | (with_reducible refine Glo.drew ?_) | (with_reducible refine Glo.kept ?_ (by assumption)) | (with_reducible refine Glo.alloc ?_ _)))).mono ?_
      rintro e w92 ⟨rfl, hb92⟩
      have hs92 : _ ≤ w92.heap.size := hb92.size
      try simp at hs92
      have o_h0_92 : Own w92 w.heap.size 0 (.int .i64 x.1) := own_kept hb92 o_h0_91
      have o_h1_92 : Own w92 w.heap.size 1 (.int .i64 x.2) := own_kept hb92 o_h1_91
      have o_h2_92 : Own w92 (w.heap.size + 1) 0 (.int .i64 q) := own_kept hb92 o_h2_91
      have o_r0_92 : Own w92 (w.heap.size + 1 + 1) 0 (.int .i64 0) := own_kept hb92 o_r0_91
      have o_r1_92 : Own w92 (w.heap.size + 1 + 1) 1 (.int .i64 0) := own_kept hb92 o_r1_91
      have o_n0_92 : Own w92 w1.heap.size 0 (.int .i64 0) := own_kept hb92 o_n0_91
      have o_n1_92 : Own w92 w1.heap.size 1 (.int .i64 0) := own_kept hb92 o_n1_91
      go_wp2_with fail
      refine hK.out _ _ (fun _ => ⟨o_h0_92.1, o_h1_92.1, o_h2_92.1⟩) ?_
      clear hK K
      try simp only [Act.put, List.setIfInBounds_toArray, List.set_cons_zero, List.set_cons_succ]
      refine AnyS.one (i := 8) (by kernel_rfl) (AnyS.comes rfl (fun K hK => ?_))
      go_simp
      refine (H.out _).mono ?_
      rintro e w93 ⟨rfl, hb93⟩
      have hs93 : _ ≤ w93.heap.size := hb93.size
      try simp at hs93
      have o_h0_93 : Own w93 w.heap.size 0 (.int .i64 x.1) := own_kept hb93 o_h0_92
      have o_h1_93 : Own w93 w.heap.size 1 (.int .i64 x.2) := own_kept hb93 o_h1_92
      have o_h2_93 : Own w93 (w.heap.size + 1) 0 (.int .i64 q) := own_kept hb93 o_h2_92
      have o_r0_93 : Own w93 (w.heap.size + 1 + 1) 0 (.int .i64 0) := own_kept hb93 o_r0_92
      have o_r1_93 : Own w93 (w.heap.size + 1 + 1) 1 (.int .i64 0) := own_kept hb93 o_r1_92
      have o_n0_93 : Own w93 w1.heap.size 0 (.int .i64 0) := own_kept hb93 o_n0_92
      have o_n1_93 : Own w93 w1.heap.size 1 (.int .i64 0) := own_kept hb93 o_n1_92
      go_wp2_with fail
      refine hK.out _ _ (fun _ => ⟨o_h0_93.1, o_h1_93.1, o_h2_93.1⟩) ?_
      clear hK K
      try simp only [Act.put, List.setIfInBounds_toArray, List.set_cons_zero, List.set_cons_succ]
      obtain ⟨dn0, en0⟩ := id o_n0_93
      obtain ⟨dn1, en1⟩ := id o_n1_93
      refine AnyS.one (i := 10) (by kernel_rfl) (AnyS.comes rfl (fun K hK => ?_))
      go_simp
      refine hK.out _ _ (fun h => absurd h (by decide)) ?_
      clear hK K
      try simp only [Act.put, List.setIfInBounds_toArray, List.set_cons_zero, List.set_cons_succ]
      refine AnyS.done (by kernel_rfl) ?_ _
      exact ⟨rfl, _, rfl, (by omega), own_next (by decide) (own_put o_n0_93), own_put (own_next (by decide) o_n1_93), own_far (by first | (simp; done) | (simp; omega) | (dsimp only; omega)) (own_far (by first | (simp; done) | (simp; omega) | (dsimp only; omega)) o_h0_93), own_far (by first | (simp; done) | (simp; omega) | (dsimp only; omega)) (own_far (by first | (simp; done) | (simp; omega) | (dsimp only; omega)) o_h1_93), own_far (by first | (simp; done) | (simp; omega) | (dsimp only; omega)) (own_far (by first | (simp; done) | (simp; omega) | (dsimp only; omega)) o_h2_93), own_far (by first | (simp; done) | (simp; omega) | (dsimp only; omega)) (own_far (by first | (simp; done) | (simp; omega) | (dsimp only; omega)) o_r0_93), own_far (by first | (simp; done) | (simp; omega) | (dsimp only; omega)) (own_far (by first | (simp; done) | (simp; omega) | (dsimp only; omega)) o_r1_93), Glo.set (Glo.set (by repeat (first | (with_reducible assumption) | (with_reducible refine Glo.drew ?_) | (with_reducible refine Glo.kept ?_ (by assumption)) | (with_reducible refine Glo.alloc ?_ _))) (by dsimp only; omega) (by dsimp only; omega)) (by dsimp only; omega) (by dsimp only; omega), belB⟩
  case cont =>
    rintro e a' w2 ⟨rfl, h, rfl, lh, V0, V1, X0, X1, Q0, R0, R1, hg2, hb2⟩
    clear o_x10 o_x11 o_q10 o_r10 o_r11 x10 f_x10 x11 f_x11 q10 f_q10 r10 f_r10 r11 f_r11 hb1 hs1 hg1 l0 l1 cx0 cx1 cq0
    obtain ⟨cx0, fx0⟩ := id X0
    obtain ⟨cx1, fx1⟩ := id X1
    have lh2 : h < w2.heap.size := World.block_lt_of_cell? _ _ V0.1
    go_wp2_with fail
    apply wp_label
    go_wp2_with fail
    refine (QI.out _).mono ?_
    rintro e w3 ⟨rfl, hw3⟩
    have sz3 : w3.heap.size = w2.heap.size + 1 := by rw [← hw3]; simp
    have D0 : w3.cell? ⟨w2.heap.size, 0, none⟩ = some (.int .i64 x.1) := by rw [← hw3]; simp [go_sem]
    have D1 : w3.cell? ⟨w2.heap.size, 1, none⟩ = some (.int .i64 x.2) := by rw [← hw3]; simp [go_sem]
    have V0 : Own w3 h 0 (.int .i64 s0.1) := by rw [← hw3]; exact own_alloc V0
    have V1 : Own w3 h 1 (.int .i64 s0.2) := by rw [← hw3]; exact own_alloc V1
    have Q0 : Own w3 (w.heap.size + 1) 0 (.int .i64 q) := by rw [← hw3]; exact own_alloc Q0
    have R0 : Own w3 (w.heap.size + 1 + 1) 0 (.int .i64 0) := by rw [← hw3]; exact own_alloc R0
    have R1 : Own w3 (w.heap.size + 1 + 1) 1 (.int .i64 0) := by rw [← hw3]; exact own_alloc R1
    have hg3 : Glo w3 := by rw [← hw3]; exact Glo.alloc hg2 _
    have sz2 := hb2.size
    have hb3 : Below w.heap.size w w3 := by rw [← hw3]; exact belB
    have hmx : Tryz.prog.follows .mixedOrders = true := by kernel_rfl
    clear X0 X1 cx0 fx0 cx1 fx1 hg2 hw3
    go_wp2_with fail
    refine (wpIn_wide (n := 8)).1 ?_
    refine wpIn_rangeFunc_ownF rfl (by omega) (gf := 120) (lb := #[.pointer (some ⟨w2.heap.size, 0, none⟩)]) rfl trivial (enters_of Tryz.func120 (by kernel_rfl) rfl)
      (quarters_stops x 7 (by omega) hx.1 hx.2 w2.heap.size w3 (by omega) D0 D1) kp_t (kp_b (by omega)) (Below.refl _ _) (fun _ => rfl)
      (fun pre W => (Own W h 0 (.int .i64 (rsF q s0 pre).1) ∧ Own W h 1 (.int .i64 (rsF q s0 pre).2) ∧ Own W (w.heap.size + 1) 0 (.int .i64 q) ∧ Own W (w.heap.size + 1 + 1) 0 (.int .i64 0) ∧ Own W (w.heap.size + 1 + 1) 1 (.int .i64 0) ∧ Glo W ∧ w2.heap.size < W.heap.size) ∧ Below w.heap.size w W)
      (fun c pre W => (c = .exit 0 ∧ rsF q s0 pre = rng ∧ Own W h 0 (.int .i64 (-4294967296)) ∧ Own W h 1 (.int .i64 4294967296) ∧ Own W (w.heap.size + 1 + 1) 0 (.int .i64 0) ∧ Own W (w.heap.size + 1 + 1) 1 (.int .i64 0)) ∧ Below w.heap.size w W)
      (OwnFrom.and (Own.from (fun s A B row hs hg hr => ⟨own_grown hs.1 hg hr, own_grown hs.2.1 hg hr, own_grown hs.2.2.1 hg hr, own_grown hs.2.2.2.1 hg hr, own_grown hs.2.2.2.2.1 hg hr, glo_grown hs.2.2.2.2.2.1 hg hr, Nat.lt_of_lt_of_le hs.2.2.2.2.2.2 hg.size⟩) _) (ownFrom_below (Nat.le_refl _) (by omega)))
      (fun c => OwnFrom.and (Own.from (fun s A B row hs hg hr => ⟨hs.1, hs.2.1, own_grown hs.2.2.1 hg hr, own_grown hs.2.2.2.1 hg hr, own_grown hs.2.2.2.2.1 hg hr, own_grown hs.2.2.2.2.2 hg hr⟩) _) (ownFrom_below (Nat.le_refl _) (by omega)))
      ⟨⟨V0, V1, Q0, R0, R1, hg3, by omega⟩, hb3⟩
      (fun k => { tmps := #[.agg #[.int .i64 x.1, .int .i64 x.2], .int .i64 q, .pointer (some ⟨w.heap.size, 0, none⟩), .pointer (some ⟨w.heap.size + 1, 0, none⟩), .pointer (some ⟨w.heap.size + 1 + 1, 0, none⟩), .pointer (some ⟨h, 0, none⟩), .int .i64 k.1, undef, .agg #[.int .i64 x.1, .int .i64 x.2], .bool true, .bool false, undef, .pointer (some ⟨w.heap.size, 0, none⟩), .int .i64 x.1, .int .i64 q, .agg #[.int .i64 a1.1, .int .i64 a1.2], .pointer (some ⟨w.heap.size, 1, none⟩), .int .i64 x.2, .int .i64 q, .agg #[.int .i64 a2.1, .int .i64 a2.2], .agg #[.int .i64 s0.1, .int .i64 s0.2], .agg #[.int .i64 x.1, .int .i64 x.2], .func (Fn.func 120) #[] #[.pointer (some ⟨w2.heap.size, 0, none⟩)], .int .i64 k.1, undef, undef, undef, undef, undef, undef, undef, undef, undef, undef, undef, undef, undef, undef, undef, undef, undef], defers := [] }) ?assign ?body ?done ?stop
    case assign =>
      intro l k W K hK
      gi_wp2
      exact hK
    case body =>
      clear V0 V1 Q0 R0 R1 hg3
      rintro l pre ⟨m, m0, m1⟩ W ⟨⟨V0, V1, Q0, R0, R1, G, lbW⟩, hB⟩ hlen
      dsimp only
      have ES := Lib.hid (rsF_snoc q s0 pre ⟨m, m0, m1⟩)
      dsimp only at ES
      have lhW : h < W.heap.size := World.block_lt_of_cell? _ _ V0.1
      obtain ⟨lg0, lg1⟩ := G.lt
      have WQ : IntKind.i64.wrap (m + q) = m + q := by rw [IntKind.wrap_i64]; omega
      obtain ⟨cq0, fq0⟩ := id Q0
      generalize rsF q s0 pre = s at *
      by_cases hs : s = rng
      · subst hs
        have AQ := Lib.hid (fun w => atQuarterI (m + q) w)
        generalize (if (m + q) % 4 = 1 then (1 : Int) else if (m + q) % 4 = 3 then -1 else 0) = ex at *
        gi_wp2_with fail
        refine ⟨trivial, ?_⟩
        refine (CallsIn.inRound l (callsIn_wide.2 (AQ.out _))).mono ?_
        rintro e w4 ⟨rfl, hb4⟩
        have V0 : Own w4 h 0 (.int .i64 (-4294967296)) := own_kept hb4 V0
        have V1 : Own w4 h 1 (.int .i64 4294967296) := own_kept hb4 V1
        have Q0 : Own w4 (w.heap.size + 1) 0 (.int .i64 q) := own_kept hb4 Q0
        have R0 : Own w4 (w.heap.size + 1 + 1) 0 (.int .i64 0) := own_kept hb4 R0
        have R1 : Own w4 (w.heap.size + 1 + 1) 1 (.int .i64 0) := own_kept hb4 R1
        have G4 : Glo w4 := Glo.kept G hb4
        obtain ⟨cv0, fv0⟩ := id V0
        obtain ⟨cv1, fv1⟩ := id V1
        obtain ⟨g0, g1, g2, g3⟩ := id G4
        have B4 : Below W.heap.size W w4 := hb4
        have s4 := hb4.size
        gi_wp2
        exact ⟨others_of B4, ⟨rfl, by rw [ES.out]; exact adS_ring q m, V0, V1, R0, R1⟩, hB.trans (B4.mono (by omega))⟩
      · by_cases p1 : (m + q) % 4 = 1
        · have AQ := Lib.hid (fun w => (atQ1 p1 w))
          have I1 := Lib.hid (fun w => Integer_any 1 (by unfold In64; omega) w)
          have H1 := Lib.hid (fun w => HullI_any s (intI 1) w)
          rw [show adS q s m = hulI s (intI 1) from if_pos p1] at ES
          generalize hulI s (intI 1) = z at *
          generalize intI 1 = i1 at *
          by_cases c1 : s.1 = -4294967296
          · have c2 : ¬ s.2 = 4294967296 := fun k => hs (ring_eq c1 k)
            obtain ⟨sa, sb⟩ := s
            (try dsimp only at *)
            subst c1
            have e2 : (sb == 4294967296) = false := by simpa using c2
            clear c2 hs
            gi_wp2_with fail
            refine ⟨trivial, ?_⟩
            refine (CallsIn.inRound l (callsIn_wide.2 (AQ.out _))).mono ?_
            rintro e w4 ⟨rfl, hb4⟩
            have V0 : Own w4 h 0 (.int .i64 (-4294967296)) := own_kept hb4 V0
            have V1 : Own w4 h 1 (.int .i64 sb) := own_kept hb4 V1
            have Q0 : Own w4 (w.heap.size + 1) 0 (.int .i64 q) := own_kept hb4 Q0
            have R0 : Own w4 (w.heap.size + 1 + 1) 0 (.int .i64 0) := own_kept hb4 R0
            have R1 : Own w4 (w.heap.size + 1 + 1) 1 (.int .i64 0) := own_kept hb4 R1
            have G4 : Glo w4 := Glo.kept G hb4
            obtain ⟨cv0, fv0⟩ := id V0
            obtain ⟨cv1, fv1⟩ := id V1
            obtain ⟨g0, g1, g2, g3⟩ := id G4
            have B4 : Below W.heap.size W w4 := hb4
            have s4 := hb4.size
            gi_wp2_with fail
            gi_region_with_o (first
              | (refine ⟨trivial, ?_⟩; gi_at_call 55; refine (CallsIn.inRound l (callsIn_wide.2 (I1.out _))).mono ?_; rintro e w5 ⟨rfl, hb5⟩; have s5 := hb5.size; (try simp at s5); have W0 : Own w5 h 0 (.int .i64 (-4294967296)) := own_kept hb5 V0; have W1 : Own w5 h 1 (.int .i64 sb) := own_kept hb5 V1; obtain ⟨cw0, fw0⟩ := id W0; obtain ⟨cw1, fw1⟩ := id W1)
              | (refine ⟨trivial, ?_⟩; gi_at_call 59; refine (CallsIn.inRound l (callsIn_wide.2 (H1.out _))).mono ?_; rintro e w6 ⟨rfl, hb6⟩; have s6 := hb6.size; (try simp at s6); have X0 : Own w6 h 0 (.int .i64 (-4294967296)) := own_kept hb6 W0; have X1 : Own w6 h 1 (.int .i64 sb) := own_kept hb6 W1; obtain ⟨cx0, fx0⟩ := id X0; obtain ⟨cx1, fx1⟩ := id X1))
            all_goals (
              have B6 : Below W.heap.size W w6 := belB
              have G6 : Glo w6 := Glo.kept (Glo.kept (Glo.drew G4) hb5) hb6
              have T0 : Own w6 (w.heap.size + 1) 0 (.int .i64 q) := own_kept hb6 (own_kept hb5 Q0)
              have T1 : Own w6 (w.heap.size + 1 + 1) 0 (.int .i64 0) := own_kept hb6 (own_kept hb5 R0)
              have T2 : Own w6 (w.heap.size + 1 + 1) 1 (.int .i64 0) := own_kept hb6 (own_kept hb5 R1)
              gi_wp2
              trace_state
              exact ⟨(others_of B6).trans ((KeepsOthers.setCell _ _ _).trans (KeepsOthers.setCell _ _ _)), kp_set (kp_set (kp_below B6 (by omega)) (by dsimp only; omega)) (by dsimp only; omega), ⟨by rw [ES.out]; exact own_next (by decide) (own_put X0), by rw [ES.out]; exact own_put (own_next (by decide) X1), own_far (by dsimp only; omega) (own_far (by dsimp only; omega) T0), own_far (by dsimp only; omega) (own_far (by dsimp only; omega) T1), own_far (by dsimp only; omega) (own_far (by dsimp only; omega) T2), Glo.set (Glo.set G6 (by dsimp only; omega) (by dsimp only; omega)) (by dsimp only; omega) (by dsimp only; omega), by simp; omega⟩, ((hB.trans (B6.mono (by omega))).setCell (by dsimp only; omega) _).setCell (by dsimp only; omega) _⟩)
          · have e1 : (s.1 == -4294967296) = false := by simpa using c1
            clear c1
            gi_wp2_with fail
            refine ⟨trivial, ?_⟩
            refine (CallsIn.inRound l (callsIn_wide.2 (AQ.out _))).mono ?_
            rintro e w4 ⟨rfl, hb4⟩
            have V0 : Own w4 h 0 (.int .i64 s.1) := own_kept hb4 V0
            have V1 : Own w4 h 1 (.int .i64 s.2) := own_kept hb4 V1
            have Q0 : Own w4 (w.heap.size + 1) 0 (.int .i64 q) := own_kept hb4 Q0
            have R0 : Own w4 (w.heap.size + 1 + 1) 0 (.int .i64 0) := own_kept hb4 R0
            have R1 : Own w4 (w.heap.size + 1 + 1) 1 (.int .i64 0) := own_kept hb4 R1
            have G4 : Glo w4 := Glo.kept G hb4
            obtain ⟨cv0, fv0⟩ := id V0
            obtain ⟨cv1, fv1⟩ := id V1
            obtain ⟨g0, g1, g2, g3⟩ := id G4
            have B4 : Below W.heap.size W w4 := hb4
            have s4 := hb4.size
            gi_wp2_with fail
            gi_region_with_o (first
              | (refine ⟨trivial, ?_⟩; gi_at_call 55; refine (CallsIn.inRound l (callsIn_wide.2 (I1.out _))).mono ?_; rintro e w5 ⟨rfl, hb5⟩; have s5 := hb5.size; (try simp at s5); have W0 : Own w5 h 0 (.int .i64 s.1) := own_kept hb5 V0; have W1 : Own w5 h 1 (.int .i64 s.2) := own_kept hb5 V1; obtain ⟨cw0, fw0⟩ := id W0; obtain ⟨cw1, fw1⟩ := id W1)
              | (refine ⟨trivial, ?_⟩; gi_at_call 59; refine (CallsIn.inRound l (callsIn_wide.2 (H1.out _))).mono ?_; rintro e w6 ⟨rfl, hb6⟩; have s6 := hb6.size; (try simp at s6); have X0 : Own w6 h 0 (.int .i64 s.1) := own_kept hb6 W0; have X1 : Own w6 h 1 (.int .i64 s.2) := own_kept hb6 W1; obtain ⟨cx0, fx0⟩ := id X0; obtain ⟨cx1, fx1⟩ := id X1))
            all_goals (
              have B6 : Below W.heap.size W w6 := belB
              have G6 : Glo w6 := Glo.kept (Glo.kept (Glo.drew G4) hb5) hb6
              have T0 : Own w6 (w.heap.size + 1) 0 (.int .i64 q) := own_kept hb6 (own_kept hb5 Q0)
              have T1 : Own w6 (w.heap.size + 1 + 1) 0 (.int .i64 0) := own_kept hb6 (own_kept hb5 R0)
              have T2 : Own w6 (w.heap.size + 1 + 1) 1 (.int .i64 0) := own_kept hb6 (own_kept hb5 R1)
              gi_wp2
              trace_state
              exact ⟨(others_of B6).trans ((KeepsOthers.setCell _ _ _).trans (KeepsOthers.setCell _ _ _)), kp_set (kp_set (kp_below B6 (by omega)) (by dsimp only; omega)) (by dsimp only; omega), ⟨by rw [ES.out]; exact own_next (by decide) (own_put X0), by rw [ES.out]; exact own_put (own_next (by decide) X1), own_far (by dsimp only; omega) (own_far (by dsimp only; omega) T0), own_far (by dsimp only; omega) (own_far (by dsimp only; omega) T1), own_far (by dsimp only; omega) (own_far (by dsimp only; omega) T2), Glo.set (Glo.set G6 (by dsimp only; omega) (by dsimp only; omega)) (by dsimp only; omega) (by dsimp only; omega), by simp; omega⟩, ((hB.trans (B6.mono (by omega))).setCell (by dsimp only; omega) _).setCell (by dsimp only; omega) _⟩)
        · by_cases p3 : (m + q) % 4 = 3
          · have AQ := Lib.hid (fun w => (atQ3 p3 w))
            have I1 := Lib.hid (fun w => Integer_any (-1) (by unfold In64; omega) w)
            have H1 := Lib.hid (fun w => HullI_any s (intI (-1)) w)
            rw [show adS q s m = hulI s (intI (-1)) from (if_neg p1).trans (if_pos p3)] at ES
            generalize hulI s (intI (-1)) = z at *
            generalize intI (-1) = i1 at *
            by_cases c1 : s.1 = -4294967296
            · have c2 : ¬ s.2 = 4294967296 := fun k => hs (ring_eq c1 k)
              obtain ⟨sa, sb⟩ := s
              (try dsimp only at *)
              subst c1
              have e2 : (sb == 4294967296) = false := by simpa using c2
              clear c2 hs
              gi_wp2_with fail
              refine ⟨trivial, ?_⟩
              refine (CallsIn.inRound l (callsIn_wide.2 (AQ.out _))).mono ?_
              rintro e w4 ⟨rfl, hb4⟩
              have V0 : Own w4 h 0 (.int .i64 (-4294967296)) := own_kept hb4 V0
              have V1 : Own w4 h 1 (.int .i64 sb) := own_kept hb4 V1
              have Q0 : Own w4 (w.heap.size + 1) 0 (.int .i64 q) := own_kept hb4 Q0
              have R0 : Own w4 (w.heap.size + 1 + 1) 0 (.int .i64 0) := own_kept hb4 R0
              have R1 : Own w4 (w.heap.size + 1 + 1) 1 (.int .i64 0) := own_kept hb4 R1
              have G4 : Glo w4 := Glo.kept G hb4
              obtain ⟨cv0, fv0⟩ := id V0
              obtain ⟨cv1, fv1⟩ := id V1
              obtain ⟨g0, g1, g2, g3⟩ := id G4
              have B4 : Below W.heap.size W w4 := hb4
              have s4 := hb4.size
              gi_wp2_with fail
              gi_region_with_o (first
                | (refine ⟨trivial, ?_⟩; gi_at_call 55; refine (CallsIn.inRound l (callsIn_wide.2 (I1.out _))).mono ?_; rintro e w5 ⟨rfl, hb5⟩; have s5 := hb5.size; (try simp at s5); have W0 : Own w5 h 0 (.int .i64 (-4294967296)) := own_kept hb5 V0; have W1 : Own w5 h 1 (.int .i64 sb) := own_kept hb5 V1; obtain ⟨cw0, fw0⟩ := id W0; obtain ⟨cw1, fw1⟩ := id W1)
                | (refine ⟨trivial, ?_⟩; gi_at_call 59; refine (CallsIn.inRound l (callsIn_wide.2 (H1.out _))).mono ?_; rintro e w6 ⟨rfl, hb6⟩; have s6 := hb6.size; (try simp at s6); have X0 : Own w6 h 0 (.int .i64 (-4294967296)) := own_kept hb6 W0; have X1 : Own w6 h 1 (.int .i64 sb) := own_kept hb6 W1; obtain ⟨cx0, fx0⟩ := id X0; obtain ⟨cx1, fx1⟩ := id X1))
              all_goals (
                have B6 : Below W.heap.size W w6 := belB
                have G6 : Glo w6 := Glo.kept (Glo.kept (Glo.drew G4) hb5) hb6
                have T0 : Own w6 (w.heap.size + 1) 0 (.int .i64 q) := own_kept hb6 (own_kept hb5 Q0)
                have T1 : Own w6 (w.heap.size + 1 + 1) 0 (.int .i64 0) := own_kept hb6 (own_kept hb5 R0)
                have T2 : Own w6 (w.heap.size + 1 + 1) 1 (.int .i64 0) := own_kept hb6 (own_kept hb5 R1)
                gi_wp2
                trace_state
                exact ⟨(others_of B6).trans ((KeepsOthers.setCell _ _ _).trans (KeepsOthers.setCell _ _ _)), kp_set (kp_set (kp_below B6 (by omega)) (by dsimp only; omega)) (by dsimp only; omega), ⟨by rw [ES.out]; exact own_next (by decide) (own_put X0), by rw [ES.out]; exact own_put (own_next (by decide) X1), own_far (by dsimp only; omega) (own_far (by dsimp only; omega) T0), own_far (by dsimp only; omega) (own_far (by dsimp only; omega) T1), own_far (by dsimp only; omega) (own_far (by dsimp only; omega) T2), Glo.set (Glo.set G6 (by dsimp only; omega) (by dsimp only; omega)) (by dsimp only; omega) (by dsimp only; omega), by simp; omega⟩, ((hB.trans (B6.mono (by omega))).setCell (by dsimp only; omega) _).setCell (by dsimp only; omega) _⟩)
            · have e1 : (s.1 == -4294967296) = false := by simpa using c1
              clear c1
              gi_wp2_with fail
              refine ⟨trivial, ?_⟩
              refine (CallsIn.inRound l (callsIn_wide.2 (AQ.out _))).mono ?_
              rintro e w4 ⟨rfl, hb4⟩
              have V0 : Own w4 h 0 (.int .i64 s.1) := own_kept hb4 V0
              have V1 : Own w4 h 1 (.int .i64 s.2) := own_kept hb4 V1
              have Q0 : Own w4 (w.heap.size + 1) 0 (.int .i64 q) := own_kept hb4 Q0
              have R0 : Own w4 (w.heap.size + 1 + 1) 0 (.int .i64 0) := own_kept hb4 R0
              have R1 : Own w4 (w.heap.size + 1 + 1) 1 (.int .i64 0) := own_kept hb4 R1
              have G4 : Glo w4 := Glo.kept G hb4
              obtain ⟨cv0, fv0⟩ := id V0
              obtain ⟨cv1, fv1⟩ := id V1
              obtain ⟨g0, g1, g2, g3⟩ := id G4
              have B4 : Below W.heap.size W w4 := hb4
              have s4 := hb4.size
              gi_wp2_with fail
              gi_region_with_o (first
                | (refine ⟨trivial, ?_⟩; gi_at_call 55; refine (CallsIn.inRound l (callsIn_wide.2 (I1.out _))).mono ?_; rintro e w5 ⟨rfl, hb5⟩; have s5 := hb5.size; (try simp at s5); have W0 : Own w5 h 0 (.int .i64 s.1) := own_kept hb5 V0; have W1 : Own w5 h 1 (.int .i64 s.2) := own_kept hb5 V1; obtain ⟨cw0, fw0⟩ := id W0; obtain ⟨cw1, fw1⟩ := id W1)
                | (refine ⟨trivial, ?_⟩; gi_at_call 59; refine (CallsIn.inRound l (callsIn_wide.2 (H1.out _))).mono ?_; rintro e w6 ⟨rfl, hb6⟩; have s6 := hb6.size; (try simp at s6); have X0 : Own w6 h 0 (.int .i64 s.1) := own_kept hb6 W0; have X1 : Own w6 h 1 (.int .i64 s.2) := own_kept hb6 W1; obtain ⟨cx0, fx0⟩ := id X0; obtain ⟨cx1, fx1⟩ := id X1))
              all_goals (
                have B6 : Below W.heap.size W w6 := belB
                have G6 : Glo w6 := Glo.kept (Glo.kept (Glo.drew G4) hb5) hb6
                have T0 : Own w6 (w.heap.size + 1) 0 (.int .i64 q) := own_kept hb6 (own_kept hb5 Q0)
                have T1 : Own w6 (w.heap.size + 1 + 1) 0 (.int .i64 0) := own_kept hb6 (own_kept hb5 R0)
                have T2 : Own w6 (w.heap.size + 1 + 1) 1 (.int .i64 0) := own_kept hb6 (own_kept hb5 R1)
                gi_wp2
                trace_state
                exact ⟨(others_of B6).trans ((KeepsOthers.setCell _ _ _).trans (KeepsOthers.setCell _ _ _)), kp_set (kp_set (kp_below B6 (by omega)) (by dsimp only; omega)) (by dsimp only; omega), ⟨by rw [ES.out]; exact own_next (by decide) (own_put X0), by rw [ES.out]; exact own_put (own_next (by decide) X1), own_far (by dsimp only; omega) (own_far (by dsimp only; omega) T0), own_far (by dsimp only; omega) (own_far (by dsimp only; omega) T1), own_far (by dsimp only; omega) (own_far (by dsimp only; omega) T2), Glo.set (Glo.set G6 (by dsimp only; omega) (by dsimp only; omega)) (by dsimp only; omega) (by dsimp only; omega), by simp; omega⟩, ((hB.trans (B6.mono (by omega))).setCell (by dsimp only; omega) _).setCell (by dsimp only; omega) _⟩)
          · have AQ := Lib.hid (fun w => (atQ0 p1 p3 w))
            rw [show adS q s m = s from (if_neg p1).trans (if_neg p3)] at ES
            by_cases c1 : s.1 = -4294967296
            · have c2 : ¬ s.2 = 4294967296 := fun k => hs (ring_eq c1 k)
              obtain ⟨sa, sb⟩ := s
              (try dsimp only at *)
              subst c1
              have e2 : (sb == 4294967296) = false := by simpa using c2
              clear c2 hs
              gi_wp2_with fail
              refine ⟨trivial, ?_⟩
              refine (CallsIn.inRound l (callsIn_wide.2 (AQ.out _))).mono ?_
              rintro e w4 ⟨rfl, hb4⟩
              have V0 : Own w4 h 0 (.int .i64 (-4294967296)) := own_kept hb4 V0
              have V1 : Own w4 h 1 (.int .i64 sb) := own_kept hb4 V1
              have Q0 : Own w4 (w.heap.size + 1) 0 (.int .i64 q) := own_kept hb4 Q0
              have R0 : Own w4 (w.heap.size + 1 + 1) 0 (.int .i64 0) := own_kept hb4 R0
              have R1 : Own w4 (w.heap.size + 1 + 1) 1 (.int .i64 0) := own_kept hb4 R1
              have G4 : Glo w4 := Glo.kept G hb4
              obtain ⟨cv0, fv0⟩ := id V0
              obtain ⟨cv1, fv1⟩ := id V1
              obtain ⟨g0, g1, g2, g3⟩ := id G4
              have B4 : Below W.heap.size W w4 := hb4
              have s4 := hb4.size
              gi_wp2
              exact ⟨others_of B4, kp_below B4 (by omega), ⟨by rw [ES.out]; exact V0, by rw [ES.out]; exact V1, Q0, R0, R1, G4, by omega⟩, hB.trans (B4.mono (by omega))⟩
            · have e1 : (s.1 == -4294967296) = false := by simpa using c1
              clear c1
              gi_wp2_with fail
              refine ⟨trivial, ?_⟩
              refine (CallsIn.inRound l (callsIn_wide.2 (AQ.out _))).mono ?_
              rintro e w4 ⟨rfl, hb4⟩
              have V0 : Own w4 h 0 (.int .i64 s.1) := own_kept hb4 V0
              have V1 : Own w4 h 1 (.int .i64 s.2) := own_kept hb4 V1
              have Q0 : Own w4 (w.heap.size + 1) 0 (.int .i64 q) := own_kept hb4 Q0
              have R0 : Own w4 (w.heap.size + 1 + 1) 0 (.int .i64 0) := own_kept hb4 R0
              have R1 : Own w4 (w.heap.size + 1 + 1) 1 (.int .i64 0) := own_kept hb4 R1
              have G4 : Glo w4 := Glo.kept G hb4
              obtain ⟨cv0, fv0⟩ := id V0
              obtain ⟨cv1, fv1⟩ := id V1
              obtain ⟨g0, g1, g2, g3⟩ := id G4
              have B4 : Below W.heap.size W w4 := hb4
              have s4 := hb4.size
              gi_wp2
              exact ⟨others_of B4, kp_below B4 (by omega), ⟨by rw [ES.out]; exact V0, by rw [ES.out]; exact V1, Q0, R0, R1, G4, by omega⟩, hB.trans (B4.mono (by omega))⟩
    case done =>
      rintro D ys W hD rfl ⟨⟨V0, V1, Q0, R0, R1, G, _⟩, hB⟩ hK
      rw [← EV.out] at V0 V1
      obtain ⟨cv0, fv0⟩ := id V0
      obtain ⟨cv1, fv1⟩ := id V1
      obtain ⟨cr0, fr0⟩ := id R0
      obtain ⟨cr1, fr1⟩ := id R1
      have hs := hB.size
      go_wp2
      try simp only [Exit.noGoto_ret]
      have hK1 := (KeepsOthers.setCell W ⟨w.heap.size + 1 + 1, 0, none⟩ (.int .i64 Y.1)).same D _ hK rfl
      have hK2 := (KeepsOthers.setCell _ ⟨w.heap.size + 1 + 1, 1, none⟩ (.int .i64 Y.2)).same D _ hK1 rfl
      refine ⟨by simp, .inl ⟨_, _, rfl, run_takeDeferred hK2, ?_⟩⟩
      have E0 := own_grown (own_next (by decide) (own_put (u := .int .i64 Y.1) R0) : Own ((W.setCell ⟨w.heap.size + 1 + 1, 0, none⟩ (.int .i64 Y.1)).setCell ⟨w.heap.size + 1 + 1, 1, none⟩ (.int .i64 Y.2)) (w.heap.size + 1 + 1) 0 (.int .i64 Y.1)) (grownBy_putObj' _ D (.deferred none)) (fun r e => by cases e; exact ⟨_, hK2, rfl⟩)
      have E1 := own_grown (own_put (own_next (by decide) R1) : Own ((W.setCell ⟨w.heap.size + 1 + 1, 0, none⟩ (.int .i64 Y.1)).setCell ⟨w.heap.size + 1 + 1, 1, none⟩ (.int .i64 Y.2)) (w.heap.size + 1 + 1) 1 (.int .i64 Y.2)) (grownBy_putObj' _ D (.deferred none)) (fun r e => by cases e; exact ⟨_, hK2, rfl⟩)
      obtain ⟨t0, t1⟩ := E0
      obtain ⟨t2, t3⟩ := E1
      refine ⟨.agg #[.int .i64 Y.1, .int .i64 Y.2], by simp [results, Tryz.results76, go_sem, t0, t2], rfl, ?_⟩
      exact ((hB.setCell (by dsimp only; omega) _).setCell (by dsimp only; omega) _).trans (belowK_b (w := w) (Nat.le_refl _) _ D _ _ (by omega) hK2 rfl rfl)
    case stop =>
      rintro D c pre W hD hp ⟨⟨rfl, hr, V0, V1, R0, R1⟩, hB⟩ hK
      have EY : Y = rng := by rw [EV.out]; exact rsF_stays hr hp
      have V0 : Own W h 0 (.int .i64 Y.1) := by rw [EY]; exact V0
      have V1 : Own W h 1 (.int .i64 Y.2) := by rw [EY]; exact V1
      obtain ⟨cv0, fv0⟩ := id V0
      obtain ⟨cv1, fv1⟩ := id V1
      obtain ⟨cr0, fr0⟩ := id R0
      obtain ⟨cr1, fr1⟩ := id R1
      have hs := hB.size
      clear EY
      refine wpIn_wide.2 ?_
      go_wp2
      try simp only [Exit.noGoto_ret]
      have hK1 := (KeepsOthers.setCell W ⟨w.heap.size + 1 + 1, 0, none⟩ (.int .i64 Y.1)).same D _ hK rfl
      have hK2 := (KeepsOthers.setCell _ ⟨w.heap.size + 1 + 1, 1, none⟩ (.int .i64 Y.2)).same D _ hK1 rfl
      refine ⟨by simp, .inl ⟨_, _, rfl, run_takeDeferred hK2, ?_⟩⟩
      have E0 := own_grown (own_next (by decide) (own_put (u := .int .i64 Y.1) R0) : Own ((W.setCell ⟨w.heap.size + 1 + 1, 0, none⟩ (.int .i64 Y.1)).setCell ⟨w.heap.size + 1 + 1, 1, none⟩ (.int .i64 Y.2)) (w.heap.size + 1 + 1) 0 (.int .i64 Y.1)) (grownBy_putObj' _ D (.deferred none)) (fun r e => by cases e; exact ⟨_, hK2, rfl⟩)
      have E1 := own_grown (own_put (own_next (by decide) R1) : Own ((W.setCell ⟨w.heap.size + 1 + 1, 0, none⟩ (.int .i64 Y.1)).setCell ⟨w.heap.size + 1 + 1, 1, none⟩ (.int .i64 Y.2)) (w.heap.size + 1 + 1) 1 (.int .i64 Y.2)) (grownBy_putObj' _ D (.deferred none)) (fun r e => by cases e; exact ⟨_, hK2, rfl⟩)
      obtain ⟨t0, t1⟩ := E0
      obtain ⟨t2, t3⟩ := E1
      refine ⟨.agg #[.int .i64 Y.1, .int .i64 Y.2], by simp [results, Tryz.results76, go_sem, t0, t2], rfl, ?_⟩
      exact ((hB.setCell (by dsimp only; omega) _).setCell (by dsimp only; omega) _).trans (belowK_b (w := w) (Nat.le_refl _) _ D _ _ (by omega) hK2 rfl rfl)
end Go.Proofs.YtnhpacaidcjaoaaGreatDoor
namespace Go.Proofs.YtnhpacaidcjaoaaGreatDoor
open Go.ChangeShapes Go.WideShapes Go.ChangeAt Go.RowKit
set_option linter.unusedVariables false
set_option maxRecDepth 100000
set_option linter.unusedSimpArgs false
set_option maxHeartbeats 1000000
theorem sinesOf_any (x : Iv) (hx : Ok x) (q : Int) (q0 : 0 ≤ q) (q1 : q ≤ 1) (w : World) (hg : Glo w) : Calls Tryz.prog 76 #[.agg #[.int .i64 x.1, .int .i64 x.2], .int .i64 q] w fun e w' =>
    e = .returned (.agg #[.int .i64 (sinV x q).1, .int .i64 (sinV x q).2]) ∧ Below w.heap.size w w' := by
  cases hf : fitA x
  · rw [show sinV x q = rng from if_neg (by rw [hf]; simp)]
    exact sinesOf_no x q hf w hg
  · exact sinesOf_yes x hx q q0 q1 hf w hg
theorem SinI_any (x : Iv) (hx : Ok x) (w : World) (hg : Glo w) : Calls Tryz.prog 29 #[.agg #[.int .i64 x.1, .int .i64 x.2]] w fun e w' =>
    e = .returned (.agg #[.int .i64 (sinV x 0).1, .int .i64 (sinV x 0).2]) ∧ Below w.heap.size w w' := by
  have S := Lib.hid (fun w hg => sinesOf_any x hx 0 (by omega) (by omega) w hg)
  generalize sinV x 0 = r at *
  go_enter Tryz.func29, Tryz.ntmps29
  go_wp2_with fail
  refine (S.out _ (by repeat (first | (with_reducible assumption) | (with_reducible refine Glo.drew ?_) | (with_reducible refine Glo.kept ?_ (by assumption)) | (with_reducible refine Glo.alloc ?_ _)))).mono ?_
  rintro e w1 ⟨rfl, hb1⟩
  have hs1 : _ ≤ w1.heap.size := hb1.size
  try simp at hs1
  have o_qr10 : Own (w1) (w.heap.size + 1) 0 (.int .i64 0) := ownJ; obtain ⟨qr10, f_qr10⟩ := o_qr10; have o_qr11 : Own (w1) (w.heap.size + 1) 1 (.int .i64 0) := ownJ; obtain ⟨qr11, f_qr11⟩ := o_qr11
  go_wp2
  exact bodyPost_ret (v := .agg #[.int .i64 (r).1, .int .i64 (r).2]) (by simp [results, Tryz.results29, go_sem, qr10, qr11]) rfl ⟨rfl, belB⟩
theorem CosI_any (x : Iv) (hx : Ok x) (w : World) (hg : Glo w) : Calls Tryz.prog 31 #[.agg #[.int .i64 x.1, .int .i64 x.2]] w fun e w' =>
    e = .returned (.agg #[.int .i64 (sinV x 1).1, .int .i64 (sinV x 1).2]) ∧ Below w.heap.size w w' := by
  have S := Lib.hid (fun w hg => sinesOf_any x hx 1 (by omega) (by omega) w hg)
  generalize sinV x 1 = r at *
  go_enter Tryz.func31, Tryz.ntmps31
  go_wp2_with fail
  refine (S.out _ (by repeat (first | (with_reducible assumption) | (with_reducible refine Glo.drew ?_) | (with_reducible refine Glo.kept ?_ (by assumption)) | (with_reducible refine Glo.alloc ?_ _)))).mono ?_
  rintro e w1 ⟨rfl, hb1⟩
  have hs1 : _ ≤ w1.heap.size := hb1.size
  try simp at hs1
  have o_qr10 : Own (w1) (w.heap.size + 1) 0 (.int .i64 0) := ownJ; obtain ⟨qr10, f_qr10⟩ := o_qr10; have o_qr11 : Own (w1) (w.heap.size + 1) 1 (.int .i64 0) := ownJ; obtain ⟨qr11, f_qr11⟩ := o_qr11
  go_wp2
  exact bodyPost_ret (v := .agg #[.int .i64 (r).1, .int .i64 (r).2]) (by simp [results, Tryz.results31, go_sem, qr10, qr11]) rfl ⟨rfl, belB⟩
theorem law_SinI (x : Iv) (hx : Ok x) (w : World) (hg : Glo w) : Calls Tryz.prog 9 #[.agg #[.int .i64 x.1, .int .i64 x.2]] w fun e w' =>
    e = .returned (.bool true) ∧ Below w.heap.size w w' := by
  have SP := Lib.hid (fun w => sSinI_any x hx w)
  have IM := Lib.hid (fun w hg => SinI_any x hx w hg)
  generalize sinV x 0 = r at *
  go_enter Tryz.func9, Tryz.ntmps9
  go_wp2_with fail
  refine (toInterval_any x _).mono ?_
  rintro e w1 ⟨rfl, hb1⟩
  have hs1 : _ ≤ w1.heap.size := hb1.size
  try simp at hs1
  go_wp2_with fail
  refine (SP.out _).mono ?_
  rintro e w2 ⟨rfl, hb2⟩
  have hs2 : _ ≤ w2.heap.size := hb2.size
  try simp at hs2
  have o_p20 : Own (w2) (w.heap.size) 0 (.int .i64 x.1) := ownJ; obtain ⟨p20, f_p20⟩ := o_p20; have o_p21 : Own (w2) (w.heap.size) 1 (.int .i64 x.2) := ownJ; obtain ⟨p21, f_p21⟩ := o_p21
  have lp2 : w.heap.size < w2.heap.size := World.block_lt_of_cell? _ _ p20
  have np2 : ¬ w.heap.size = w2.heap.size := Nat.ne_of_lt lp2
  have mp2 : ¬ w2.heap.size = w.heap.size := Nat.ne_of_gt lp2
  go_wp2_with fail
  refine (toInterval_any x _).mono ?_
  rintro e w3 ⟨rfl, hb3⟩
  have hs3 : _ ≤ w3.heap.size := hb3.size
  try simp at hs3
  go_wp2_with fail
  refine (IM.out _ (by repeat (first | (with_reducible assumption) | (with_reducible refine Glo.drew ?_) | (with_reducible refine Glo.kept ?_ (by assumption)) | (with_reducible refine Glo.alloc ?_ _)))).mono ?_
  rintro e w4 ⟨rfl, hb4⟩
  have hs4 : _ ≤ w4.heap.size := hb4.size
  try simp at hs4
  have o_g40 : Own (w4) (w2.heap.size) 0 (.int .i64 r.1) := ownJ; obtain ⟨g40, f_g40⟩ := o_g40; have o_g41 : Own (w4) (w2.heap.size) 1 (.int .i64 r.2) := ownJ; obtain ⟨g41, f_g41⟩ := o_g41
  have lg4 : w2.heap.size < w4.heap.size := World.block_lt_of_cell? _ _ g40
  have ng4 : ¬ w2.heap.size = w4.heap.size := Nat.ne_of_lt lg4
  have mg4 : ¬ w4.heap.size = w2.heap.size := Nat.ne_of_gt lg4
  go_wp2_with fail
  refine (eqInterval_same _ _ _).mono ?_
  rintro e w5 ⟨rfl, hb5⟩
  have hs5 : _ ≤ w5.heap.size := hb5.size
  try simp at hs5
  go_wp2
  go_ret
  exact ⟨rfl, belB⟩
theorem law_CosI (x : Iv) (hx : Ok x) (w : World) (hg : Glo w) : Calls Tryz.prog 10 #[.agg #[.int .i64 x.1, .int .i64 x.2]] w fun e w' =>
    e = .returned (.bool true) ∧ Below w.heap.size w w' := by
  have SP := Lib.hid (fun w => sCosI_any x hx w)
  have IM := Lib.hid (fun w hg => CosI_any x hx w hg)
  generalize sinV x 1 = r at *
  go_enter Tryz.func10, Tryz.ntmps10
  go_wp2_with fail
  refine (toInterval_any x _).mono ?_
  rintro e w1 ⟨rfl, hb1⟩
  have hs1 : _ ≤ w1.heap.size := hb1.size
  try simp at hs1
  go_wp2_with fail
  refine (SP.out _).mono ?_
  rintro e w2 ⟨rfl, hb2⟩
  have hs2 : _ ≤ w2.heap.size := hb2.size
  try simp at hs2
  have o_p20 : Own (w2) (w.heap.size) 0 (.int .i64 x.1) := ownJ; obtain ⟨p20, f_p20⟩ := o_p20; have o_p21 : Own (w2) (w.heap.size) 1 (.int .i64 x.2) := ownJ; obtain ⟨p21, f_p21⟩ := o_p21
  have lp2 : w.heap.size < w2.heap.size := World.block_lt_of_cell? _ _ p20
  have np2 : ¬ w.heap.size = w2.heap.size := Nat.ne_of_lt lp2
  have mp2 : ¬ w2.heap.size = w.heap.size := Nat.ne_of_gt lp2
  go_wp2_with fail
  refine (toInterval_any x _).mono ?_
  rintro e w3 ⟨rfl, hb3⟩
  have hs3 : _ ≤ w3.heap.size := hb3.size
  try simp at hs3
  go_wp2_with fail
  refine (IM.out _ (by repeat (first | (with_reducible assumption) | (with_reducible refine Glo.drew ?_) | (with_reducible refine Glo.kept ?_ (by assumption)) | (with_reducible refine Glo.alloc ?_ _)))).mono ?_
  rintro e w4 ⟨rfl, hb4⟩
  have hs4 : _ ≤ w4.heap.size := hb4.size
  try simp at hs4
  have o_g40 : Own (w4) (w2.heap.size) 0 (.int .i64 r.1) := ownJ; obtain ⟨g40, f_g40⟩ := o_g40; have o_g41 : Own (w4) (w2.heap.size) 1 (.int .i64 r.2) := ownJ; obtain ⟨g41, f_g41⟩ := o_g41
  have lg4 : w2.heap.size < w4.heap.size := World.block_lt_of_cell? _ _ g40
  have ng4 : ¬ w2.heap.size = w4.heap.size := Nat.ne_of_lt lg4
  have mg4 : ¬ w4.heap.size = w2.heap.size := Nat.ne_of_gt lg4
  go_wp2_with fail
  refine (eqInterval_same _ _ _).mono ?_
  rintro e w5 ⟨rfl, hb5⟩
  have hs5 : _ ≤ w5.heap.size := hb5.size
  try simp at hs5
  go_wp2
  go_ret
  exact ⟨rfl, belB⟩
end Go.Proofs.YtnhpacaidcjaoaaGreatDoor
namespace Go.Proofs.YtnhpacaidcjaoaaGreatDoor
open Go.ChangeShapes Go.WideShapes Go.ChangeAt Go.RowKit Go.Shelf
set_option linter.unusedVariables false
set_option maxRecDepth 100000
set_option linter.unusedSimpArgs false
set_option maxHeartbeats 1000000
attribute [local go_sem] Oper.semAt_some
theorem TanI_no (x : Iv) (hf : fitA x = false) (w : World) (hg : Glo w) : Calls Tryz.prog 33 #[.agg #[.int .i64 x.1, .int .i64 x.2]] w fun e w' =>
    e = .returned (.agg #[.int .i64 (-1152921504606846976), .int .i64 1152921504606846976]) ∧ Below w.heap.size w w' := by
  have CF := Lib.hid (fun w => hasAngles_any x w)
  rw [hf] at CF
  go_enter Tryz.func33, Tryz.ntmps33
  go_wp2_with fail
  refine (CF.out _).mono ?_
  rintro e w1 ⟨rfl, hb1⟩
  have hs1 : _ ≤ w1.heap.size := hb1.size
  try simp at hs1
  have o_r10 : Own (w1) (w.heap.size + 1) 0 (.int .i64 0) := ownJ; have r10 := o_r10.1; have f_r10 := o_r10.2; have o_r11 : Own (w1) (w.heap.size + 1) 1 (.int .i64 0) := ownJ; have r11 := o_r11.1; have f_r11 := o_r11.2
  go_wp2_with fail
  refine (Whole_any _).mono ?_
  rintro e w2 ⟨rfl, hb2⟩
  have hs2 : _ ≤ w2.heap.size := hb2.size
  try simp at hs2
  have o_r20 : Own (w2) (w.heap.size + 1) 0 (.int .i64 0) := ownJ; have r20 := o_r20.1; have f_r20 := o_r20.2; have o_r21 : Own (w2) (w.heap.size + 1) 1 (.int .i64 0) := ownJ; have r21 := o_r21.1; have f_r21 := o_r21.2
  go_wp2
  exact bodyPost_ret (v := .agg #[.int .i64 (-1152921504606846976), .int .i64 1152921504606846976]) (by simp [results, Tryz.results33, go_sem, r20, r21]) rfl ⟨rfl, belB⟩
theorem glo_mk {w : World} (h0 : w.cell? ⟨0, 0, none⟩ = some (.int .i64 (-4294967296))) (h1 : w.cell? ⟨0, 1, none⟩ = some (.int .i64 4294967296)) (h2 : w.cell? ⟨1, 0, none⟩ = some (.int .i64 (-1))) (h3 : w.cell? ⟨1, 1, none⟩ = some (.int .i64 1)) : Glo w := ⟨h0, h1, h2, h3⟩
theorem tmod_two {m : Int} : (m % 2 = 1 ∧ (m.tmod 2 = 1 ∨ m.tmod 2 = -1)) ∨ (¬ m % 2 = 1 ∧ m.tmod 2 = 0) := by
  rw [Int.tmod_eq_emod]
  split <;> omega
set_option maxHeartbeats 8000000 in
theorem TanI_yes (x : Iv) (hx : Ok x) (hf : fitA x = true) (w : World) (hg : Glo w) : Calls Tryz.prog 33 #[.agg #[.int .i64 x.1, .int .i64 x.2]] w fun e w' =>
    e = .returned (.agg #[.int .i64 (tanV x).1, .int .i64 (tanV x).2]) ∧ Below w.heap.size w w' := by
  have CF := Lib.hid (fun w => hasAngles_any x w)
  rw [hf] at CF
  have T1 := Lib.hid (fun w hg => tangentAt_any x.1 hx.1 w hg)
  have T2 := Lib.hid (fun w hg => tangentAt_any x.2 hx.2 w hg)
  have H := Lib.hid (fun w => HullI_any (tanA x.1) (tanA x.2) w)
  have QI := Lib.hid (fun w => quartersIn_any x w)
  have EO := Lib.hid (fun (k : QK) (m : k ∈ qkL x) (o : oddB k.1 = true) => tanV_odd hf m o)
  have EE := Lib.hid (fun (m : ∀ k ∈ qkL x, oddB k.1 = false) => tanV_even hf m)
  generalize tanV x = Y at *
  generalize hulI (tanA x.1) (tanA x.2) = z at *
  generalize tanA x.1 = a1 at *
  generalize tanA x.2 = a2 at *
  clear hf
  refine (callsIn_wide (n := 9)).1 ?_
  refine callsIn_of_wp_marks Tryz.func33 rfl trivial ?_ rfl
  simp only [Tryz.ntmps33, List.size_toArray, List.length_cons, List.length_nil, Nat.reduceAdd, Nat.reduceSub, Array.replicate_succ, Array.replicate_zero, List.push_toArray, List.append_toArray, List.nil_append, List.cons_append]
  refine wpIn_wide.2 ?_
  go_wp2_with fail
  refine (CF.out _).mono ?_
  rintro e w1 ⟨rfl, hb1⟩
  have hs1 : _ ≤ w1.heap.size := hb1.size
  try simp at hs1
  have o_x10 : Own (w1) (w.heap.size) 0 (.int .i64 x.1) := ownJ; have x10 := o_x10.1; have f_x10 := o_x10.2; have o_x11 : Own (w1) (w.heap.size) 1 (.int .i64 x.2) := ownJ; have x11 := o_x11.1; have f_x11 := o_x11.2
  have o_r10 : Own (w1) (w.heap.size + 1) 0 (.int .i64 0) := ownJ; have r10 := o_r10.1; have f_r10 := o_r10.2; have o_r11 : Own (w1) (w.heap.size + 1) 1 (.int .i64 0) := ownJ; have r11 := o_r11.1; have f_r11 := o_r11.2
  have lr1 : w.heap.size + 1 < w1.heap.size := World.block_lt_of_cell? _ _ r10
  have hg1 : Glo w1 := (by repeat (first | (with_reducible assumption) | (with_reducible refine Glo.drew ?_) | (with_reducible refine Glo.kept ?_ (by assumption)) | (with_reducible refine Glo.alloc ?_ _)))
  go_wp2_with fail
  refine (QI.out _).mono ?_
  rintro e w3 ⟨rfl, hw3⟩
  have sz3 : w3.heap.size = w1.heap.size + 1 := by rw [← hw3]; simp
  have D0 : w3.cell? ⟨w1.heap.size, 0, none⟩ = some (.int .i64 x.1) := by rw [← hw3]; simp [go_sem]
  have D1 : w3.cell? ⟨w1.heap.size, 1, none⟩ = some (.int .i64 x.2) := by rw [← hw3]; simp [go_sem]
  have X0 : Own w3 w.heap.size 0 (.int .i64 x.1) := by rw [← hw3]; exact own_alloc o_x10
  have X1 : Own w3 w.heap.size 1 (.int .i64 x.2) := by rw [← hw3]; exact own_alloc o_x11
  have R0 : Own w3 (w.heap.size + 1) 0 (.int .i64 0) := by rw [← hw3]; exact own_alloc o_r10
  have R1 : Own w3 (w.heap.size + 1) 1 (.int .i64 0) := by rw [← hw3]; exact own_alloc o_r11
  have hg3 : Glo w3 := by rw [← hw3]; exact Glo.alloc hg1 _
  have hb3 : Below w.heap.size w w3 := by rw [← hw3]; exact belB
  have hmx : Tryz.prog.follows .mixedOrders = true := by kernel_rfl
  clear hw3 o_x10 x10 f_x10 o_x11 x11 f_x11 o_r10 r10 f_r10 o_r11 r11 f_r11 hb1 hg1
  go_wp2_with fail
  refine (wpIn_wide (n := 8)).1 ?_
  refine wpIn_rangeFunc_ownF rfl (by omega) (gf := 120) (lb := #[.pointer (some ⟨w1.heap.size, 0, none⟩)]) rfl trivial (enters_of Tryz.func120 (by kernel_rfl) rfl)
    (quarters_stops x 7 (by omega) hx.1 hx.2 w1.heap.size w3 (by omega) D0 D1) kp_t (kp_b (by omega)) (Below.refl _ _) (fun _ => rfl)
    (fun pre W => ((∀ k ∈ pre, oddB k.1 = false) ∧ Own W w.heap.size 0 (.int .i64 x.1) ∧ Own W w.heap.size 1 (.int .i64 x.2) ∧ Own W (w.heap.size + 1) 0 (.int .i64 0) ∧ Own W (w.heap.size + 1) 1 (.int .i64 0) ∧ Glo W ∧ w1.heap.size < W.heap.size) ∧ Below w.heap.size w W)
    (fun c pre W => (c = .ret ∧ (∃ k ∈ pre, oddB k.1 = true) ∧ Own W (w.heap.size + 1) 0 (.int .i64 (-1152921504606846976)) ∧ Own W (w.heap.size + 1) 1 (.int .i64 1152921504606846976)) ∧ Below w.heap.size w W)
    (OwnFrom.and (Own.from (fun s A B row hs hg hr => ⟨hs.1, own_grown hs.2.1 hg hr, own_grown hs.2.2.1 hg hr, own_grown hs.2.2.2.1 hg hr, own_grown hs.2.2.2.2.1 hg hr, glo_grown hs.2.2.2.2.2.1 hg hr, Nat.lt_of_lt_of_le hs.2.2.2.2.2.2 hg.size⟩) _) (ownFrom_below (Nat.le_refl _) (by omega)))
    (fun c => OwnFrom.and (Own.from (fun s A B row hs hg hr => ⟨hs.1, hs.2.1, own_grown hs.2.2.1 hg hr, own_grown hs.2.2.2 hg hr⟩) _) (ownFrom_below (Nat.le_refl _) (by omega)))
    ⟨⟨(fun k h => by cases h), X0, X1, R0, R1, hg3, by omega⟩, hb3⟩
    (fun k => { tmps := #[.agg #[.int .i64 x.1, .int .i64 x.2], .pointer (some ⟨w.heap.size, 0, none⟩), .pointer (some ⟨w.heap.size + 1, 0, none⟩), .int .i64 k.1, .agg #[.int .i64 x.1, .int .i64 x.2], .bool true, .bool false, undef, .agg #[.int .i64 x.1, .int .i64 x.2], .func (Fn.func 120) #[] #[.pointer (some ⟨w1.heap.size, 0, none⟩)], .int .i64 k.1, undef, undef, undef, undef, undef, undef, undef, undef, undef, undef, undef], defers := [] }) ?assign ?body ?done ?stop
  case assign =>
    intro l k W K hK
    gi_wp2
    exact hK
  case body =>
    clear X0 X1 R0 R1 hg3
    rintro l pre ⟨m, m0, m1⟩ W ⟨⟨NE, X0, X1, R0, R1, G, lbW⟩, hB⟩ hlen
    dsimp only
    rcases tmod_two (m := m) with ⟨od, M | M⟩ | ⟨od, M⟩
    · have EV := Lib.hid (show ∃ k ∈ pre ++ [(⟨m, m0, m1⟩ : QK)], oddB k.1 = true from ⟨⟨m, m0, m1⟩, List.mem_append.2 (.inr (by simp)), decide_eq_true od⟩)
      clear NE od
      gi_wp2_with fail
      refine ⟨trivial, ?_⟩
      refine (CallsIn.inRound l (callsIn_wide.2 (Whole_any _))).mono ?_
      rintro e w4 ⟨rfl, hb4⟩
      have R0 := own_kept hb4 R0
      have R1 := own_kept hb4 R1
      obtain ⟨cr0, fr0⟩ := id R0
      obtain ⟨cr1, fr1⟩ := id R1
      have s4 := hb4.size
      have hsW := hB.size
      gi_wp2
      exact ⟨(others_of hb4).trans ((KeepsOthers.setCell _ _ _).trans (KeepsOthers.setCell _ _ _)), ⟨rfl, EV.out, own_next (by decide) (own_put R0), own_put (own_next (by decide) R1)⟩, ((hB.trans (hb4.mono (by omega))).setCell (by dsimp only; omega) _).setCell (by dsimp only; omega) _⟩
    · have EV := Lib.hid (show ∃ k ∈ pre ++ [(⟨m, m0, m1⟩ : QK)], oddB k.1 = true from ⟨⟨m, m0, m1⟩, List.mem_append.2 (.inr (by simp)), decide_eq_true od⟩)
      clear NE od
      gi_wp2_with fail
      refine ⟨trivial, ?_⟩
      refine (CallsIn.inRound l (callsIn_wide.2 (Whole_any _))).mono ?_
      rintro e w4 ⟨rfl, hb4⟩
      have R0 := own_kept hb4 R0
      have R1 := own_kept hb4 R1
      obtain ⟨cr0, fr0⟩ := id R0
      obtain ⟨cr1, fr1⟩ := id R1
      have s4 := hb4.size
      have hsW := hB.size
      gi_wp2
      exact ⟨(others_of hb4).trans ((KeepsOthers.setCell _ _ _).trans (KeepsOthers.setCell _ _ _)), ⟨rfl, EV.out, own_next (by decide) (own_put R0), own_put (own_next (by decide) R1)⟩, ((hB.trans (hb4.mono (by omega))).setCell (by dsimp only; omega) _).setCell (by dsimp only; omega) _⟩
    · have ev : ∀ k ∈ pre ++ [(⟨m, m0, m1⟩ : QK)], oddB k.1 = false := by
        intro k hk
        rcases List.mem_append.1 hk with h | h
        · exact NE k h
        · simp only [List.mem_singleton] at h
          subst h
          exact decide_eq_false od
      have EV := Lib.hid ev
      clear ev NE od
      gi_wp2
      exact ⟨KeepsOthers.refl _, rfl, ⟨EV.out, X0, X1, R0, R1, G, lbW⟩, hB⟩
  case done =>
    rintro D ys W hD rfl ⟨⟨NE, X0, X1, R0, R1, G, _⟩, hB⟩ hK
    have E := Lib.hid (EE.out NE)
    clear NE
    obtain ⟨cx0, fx0⟩ := id X0
    obtain ⟨cx1, fx1⟩ := id X1
    obtain ⟨cr0, fr0⟩ := id R0
    obtain ⟨cr1, fr1⟩ := id R1
    obtain ⟨g0, g1, g2, g3⟩ := id G
    have l0 : 0 < W.heap.size := World.block_lt_of_cell? _ _ g0
    have l1 : 1 < W.heap.size := World.block_lt_of_cell? _ _ g2
    have lx : w.heap.size < W.heap.size := World.block_lt_of_cell? _ _ cx0
    have lr : w.heap.size + 1 < W.heap.size := World.block_lt_of_cell? _ _ cr0
    obtain ⟨lg0, lg1⟩ := hg.lt
    have lD : D < W.heap.size := (Array.getElem?_eq_some_iff.1 hK).1
    have z0 := pslot_of (w := W) (a := ⟨w.heap.size + 1, 0, none⟩) (v := .int .i64 0) cr0 fr0
    have z1 := pslot_of (w := W) (a := ⟨w.heap.size + 1, 1, none⟩) (v := .int .i64 0) cr1 fr1
    go_wp2_with fail
    obtain ⟨hlt2, hlt3, hlt4, hlt5, hlt6, hlt7, hlt8, hlt9, hlt10, hlt11⟩ := below_add; go_region_held3 (fun w' => w'.cell? ⟨w.heap.size, 0, none⟩ = some (.int .i64 x.1) ∧ w'.cell? ⟨w.heap.size, 1, none⟩ = some (.int .i64 x.2) ∧ w'.cell? ⟨0, 0, none⟩ = some (.int .i64 (-4294967296)) ∧ w'.cell? ⟨0, 1, none⟩ = some (.int .i64 4294967296) ∧ w'.cell? ⟨1, 0, none⟩ = some (.int .i64 (-1)) ∧ w'.cell? ⟨1, 1, none⟩ = some (.int .i64 1) ∧ (w'.cell? ⟨w.heap.size + 1, 0, none⟩ = some (peek w' ⟨w.heap.size + 1, 0, none⟩) ∧ w'.frozen? ⟨w.heap.size + 1, 0, none⟩ = false) ∧ (w'.cell? ⟨w.heap.size + 1, 1, none⟩ = some (peek w' ⟨w.heap.size + 1, 1, none⟩) ∧ w'.frozen? ⟨w.heap.size + 1, 1, none⟩ = false)) (first | (with_reducible exact ((And.imp (cell_kept (by assumption)) (And.imp (cell_kept (by assumption)) (And.imp (cell_kept (by assumption)) (And.imp (cell_kept (by assumption)) (And.imp (cell_kept (by assumption)) (And.imp (cell_kept (by assumption)) (And.imp (pslot_kept (by assumption)) (pslot_kept (by assumption))))))))) (by assumption))) | (with_reducible exact ((And.imp (cell_alloc) (And.imp (cell_alloc) (And.imp (cell_alloc) (And.imp (cell_alloc) (And.imp (cell_alloc) (And.imp (cell_alloc) (And.imp (pslot_alloc) (pslot_alloc)))))))) (by assumption))) | (with_reducible exact ((And.imp (fun h => cell_far (by first | (simp; done) | (simp; omega) | (dsimp only; omega)) (cell_far (by first | (simp; done) | (simp; omega) | (dsimp only; omega)) h)) (And.imp (fun h => cell_far (by first | (simp; done) | (simp; omega) | (dsimp only; omega)) (cell_far (by first | (simp; done) | (simp; omega) | (dsimp only; omega)) h)) (And.imp (fun h => cell_far (by first | (simp; done) | (simp; omega) | (dsimp only; omega)) (cell_far (by first | (simp; done) | (simp; omega) | (dsimp only; omega)) h)) (And.imp (fun h => cell_far (by first | (simp; done) | (simp; omega) | (dsimp only; omega)) (cell_far (by first | (simp; done) | (simp; omega) | (dsimp only; omega)) h)) (And.imp (fun h => cell_far (by first | (simp; done) | (simp; omega) | (dsimp only; omega)) (cell_far (by first | (simp; done) | (simp; omega) | (dsimp only; omega)) h)) (And.imp (fun h => cell_far (by first | (simp; done) | (simp; omega) | (dsimp only; omega)) (cell_far (by first | (simp; done) | (simp; omega) | (dsimp only; omega)) h)) (And.imp (fun h => pslot_set (pslot_set h)) (fun h => pslot_set (pslot_set h))))))))) (by assumption))) | (refine ⟨?_, ?_, ?_, ?_, ?_, ?_, ?_, ?_⟩ <;> repeat (first | (with_reducible assumption) | (with_reducible refine cell_far (by first | (simp; done) | (simp; omega) | (dsimp only; omega)) ?_) | (with_reducible refine cell_drew ?_) | (with_reducible refine cell_drewN ?_) | (with_reducible refine cell_kept (by assumption) ?_) | (with_reducible exact pslot_of (by assumption) (by assumption)) | (with_reducible refine pslot_drew ?_) | (with_reducible refine pslot_kept (by assumption) ?_) | (with_reducible refine pslot_alloc ?_) | (simp [go_sem]; done) | (with_reducible refine cell_alloc ?_))) | (simp [go_sem, *]; done)) (first | (go_at_call 82; with_reducible refine (T1.out _ (glo_mk (by simp [go_sem, *]) (by simp [go_sem, *]) (by simp [go_sem, *]) (by simp [go_sem, *]))).mono ?_; rintro e w1 ⟨rfl, hb⟩; have hs : _ ≤ w1.heap.size := hb.size; (try simp at hs); obtain ⟨hc, hf, hl, hn, hm⟩ := behind hb) | (go_at_call 82; with_reducible refine (T2.out _ (glo_mk (by simp [go_sem, *]) (by simp [go_sem, *]) (by simp [go_sem, *]) (by simp [go_sem, *]))).mono ?_; rintro e w1 ⟨rfl, hb⟩; have hs : _ ≤ w1.heap.size := hb.size; (try simp at hs); obtain ⟨hc, hf, hl, hn, hm⟩ := behind hb) | (go_at_call 59; refine (H.out _).mono ?_; rintro e w1 ⟨rfl, hb⟩; have hs : _ ≤ w1.heap.size := hb.size; (try simp at hs); obtain ⟨hc, hf, hl, hn, hm⟩ := behind hb))
    all_goals (
      have BW : Below W.heap.size W w1 := belB
      have hK0 : w1.heap[D]? = some (.deferred (some [])) := (BW.block D lD).trans hK
      have S0 : Own w1 (w.heap.size + 1) 0 (.int .i64 0) := ownJ
      have S1 : Own w1 (w.heap.size + 1) 1 (.int .i64 0) := ownJ
      go_wp2
      have hK1 := (KeepsOthers.setCell w1 ⟨w.heap.size + 1, 0, none⟩ (.int .i64 z.1)).same D _ hK0 rfl
      have hK2 := (KeepsOthers.setCell _ ⟨w.heap.size + 1, 1, none⟩ (.int .i64 z.2)).same D _ hK1 rfl
      refine ⟨by simp, .inl ⟨_, _, rfl, run_takeDeferred hK2, ?_⟩⟩
      have E0 := own_grown (own_next (by decide) (own_put (u := .int .i64 z.1) S0) : Own ((w1.setCell ⟨w.heap.size + 1, 0, none⟩ (.int .i64 z.1)).setCell ⟨w.heap.size + 1, 1, none⟩ (.int .i64 z.2)) (w.heap.size + 1) 0 (.int .i64 z.1)) (grownBy_putObj' _ D (.deferred none)) (fun r e => by cases e; exact ⟨_, hK2, rfl⟩)
      have E1 := own_grown (own_put (own_next (by decide) S1) : Own ((w1.setCell ⟨w.heap.size + 1, 0, none⟩ (.int .i64 z.1)).setCell ⟨w.heap.size + 1, 1, none⟩ (.int .i64 z.2)) (w.heap.size + 1) 1 (.int .i64 z.2)) (grownBy_putObj' _ D (.deferred none)) (fun r e => by cases e; exact ⟨_, hK2, rfl⟩)
      obtain ⟨t0, t1⟩ := E0
      obtain ⟨t2, t3⟩ := E1
      refine ⟨.agg #[.int .i64 z.1, .int .i64 z.2], by simp [results, Tryz.results33, go_sem, t0, t2], by rw [E.out], ?_⟩
      have BB : Below w.heap.size w w1 := hB.trans (BW.mono (by omega))
      exact ((BB.setCell (by dsimp only; omega) _).setCell (by dsimp only; omega) _).trans (belowK_b (w := w) (Nat.le_refl _) _ D _ _ (by omega) hK2 rfl rfl))
  case stop =>
    rintro D c pre W hD hp ⟨⟨rfl, ⟨k, k1, k2⟩, R0, R1⟩, hB⟩ hK
    have E := Lib.hid (EO.out k (hp.subset k1) k2)
    refine wpIn_wide.2 ?_
    go_wp2
    refine ⟨by simp, .inl ⟨_, _, rfl, run_takeDeferred hK, ?_⟩⟩
    have E0 := own_grown R0 (grownBy_putObj' _ D (.deferred none)) (fun r e => by cases e; exact ⟨_, hK, rfl⟩)
    have E1 := own_grown R1 (grownBy_putObj' _ D (.deferred none)) (fun r e => by cases e; exact ⟨_, hK, rfl⟩)
    obtain ⟨t0, t1⟩ := E0
    obtain ⟨t2, t3⟩ := E1
    have hs := hB.size
    refine ⟨.agg #[.int .i64 (-1152921504606846976), .int .i64 1152921504606846976], by simp [results, Tryz.results33, go_sem, t0, t2], by rw [E.out]; rfl, ?_⟩
    exact hB.trans (belowK_b (w := w) (Nat.le_refl _) _ D _ _ (by omega) hK rfl rfl)
theorem TanI_any (x : Iv) (hx : Ok x) (w : World) (hg : Glo w) : Calls Tryz.prog 33 #[.agg #[.int .i64 x.1, .int .i64 x.2]] w fun e w' =>
    e = .returned (.agg #[.int .i64 (tanV x).1, .int .i64 (tanV x).2]) ∧ Below w.heap.size w w' := by
  cases hf : fitA x
  · rw [show tanV x = whl from if_neg (by rw [hf]; simp)]
    exact TanI_no x hf w hg
  · exact TanI_yes x hx hf w hg
theorem law_TanI (x : Iv) (hx : Ok x) (w : World) (hg : Glo w) : Calls Tryz.prog 11 #[.agg #[.int .i64 x.1, .int .i64 x.2]] w fun e w' =>
    e = .returned (.bool true) ∧ Below w.heap.size w w' := by
  have SP := Lib.hid (fun w => sTanI_any x hx w)
  have IM := Lib.hid (fun w hg => TanI_any x hx w hg)
  generalize tanV x = r at *
  go_enter Tryz.func11, Tryz.ntmps11
  go_wp2_with fail
  refine (toInterval_any x _).mono ?_
  rintro e w1 ⟨rfl, hb1⟩
  have hs1 : _ ≤ w1.heap.size := hb1.size
  try simp at hs1
  go_wp2_with fail
  refine (SP.out _).mono ?_
  rintro e w2 ⟨rfl, hb2⟩
  have hs2 : _ ≤ w2.heap.size := hb2.size
  try simp at hs2
  have o_p20 : Own (w2) (w.heap.size) 0 (.int .i64 x.1) := ownJ; obtain ⟨p20, f_p20⟩ := o_p20; have o_p21 : Own (w2) (w.heap.size) 1 (.int .i64 x.2) := ownJ; obtain ⟨p21, f_p21⟩ := o_p21
  have lp2 : w.heap.size < w2.heap.size := World.block_lt_of_cell? _ _ p20
  have np2 : ¬ w.heap.size = w2.heap.size := Nat.ne_of_lt lp2
  have mp2 : ¬ w2.heap.size = w.heap.size := Nat.ne_of_gt lp2
  go_wp2_with fail
  refine (toInterval_any x _).mono ?_
  rintro e w3 ⟨rfl, hb3⟩
  have hs3 : _ ≤ w3.heap.size := hb3.size
  try simp at hs3
  go_wp2_with fail
  refine (IM.out _ (by repeat (first | (with_reducible assumption) | (with_reducible refine Glo.drew ?_) | (with_reducible refine Glo.kept ?_ (by assumption)) | (with_reducible refine Glo.alloc ?_ _)))).mono ?_
  rintro e w4 ⟨rfl, hb4⟩
  have hs4 : _ ≤ w4.heap.size := hb4.size
  try simp at hs4
  have o_g40 : Own (w4) (w2.heap.size) 0 (.int .i64 r.1) := ownJ; obtain ⟨g40, f_g40⟩ := o_g40; have o_g41 : Own (w4) (w2.heap.size) 1 (.int .i64 r.2) := ownJ; obtain ⟨g41, f_g41⟩ := o_g41
  have lg4 : w2.heap.size < w4.heap.size := World.block_lt_of_cell? _ _ g40
  have ng4 : ¬ w2.heap.size = w4.heap.size := Nat.ne_of_lt lg4
  have mg4 : ¬ w4.heap.size = w2.heap.size := Nat.ne_of_gt lg4
  go_wp2_with fail
  refine (eqInterval_same _ _ _).mono ?_
  rintro e w5 ⟨rfl, hb5⟩
  have hs5 : _ ≤ w5.heap.size := hb5.size
  try simp at hs5
  go_wp2
  go_ret
  exact ⟨rfl, belB⟩
end Go.Proofs.YtnhpacaidcjaoaaGreatDoor
