/- Contracts of parts and overlaps of intervals in the program. Conditions: numbers are int64. -/
import Derived.Test.YtmikjgbojknlnaaIvF
import Derived.Deep.RegionWith
import Derived.Outline
namespace Go.Proofs.Ytmikjgbojknlnaa
open Go.ChangeShapes Go.WideShapes Go.ChangeAt Go.RowKit
set_option linter.unusedVariables false
set_option maxRecDepth 100000
set_option linter.unusedSimpArgs false
set_option maxHeartbeats 1000000

set_option maxHeartbeats 8000000 in
theorem OverlapI_any (x y : Iv) (w : World) : Calls Try.prog 139 #[.agg #[.int .i64 x.1, .int .i64 x.2], .agg #[.int .i64 y.1, .int .i64 y.2]] w fun e w' =>
    e = .returned (.bool (olpI x y)) ∧ Below w.heap.size w w' := by
  by_cases p : (can x).1 ≤ (can y).2
  · by_cases q : (can y).1 ≤ (can x).2
    · have E := Lib.hid (show olpI x y = true from decide_eq_true ⟨p, q⟩)
      have q0 : decide ((can y).1 ≤ (can x).2) = true := decide_eq_true q
      obtain ⟨hlt2, hlt3, hlt4, hlt5, hlt6, hlt7, hlt8, hlt9, hlt10, hlt11⟩ := below_add
      go_enter Try.func139, Try.ntmps139
      go_wp2_with fail
      go_region_with (first | (go_at_call 153; (first | (with_reducible refine (canonical_any x _).mono ?_) | (with_reducible refine (canonical_any y _).mono ?_)); rintro e w1 ⟨rfl, hb⟩; have hs : _ ≤ w1.heap.size := hb.size; (try simp at hs); obtain ⟨hc, hf, hl, hn, hm⟩ := behind hb))
      all_goals (have o_p0 : Own (w1) (w.heap.size) 0 (.int .i64 x.1) := ownJ; obtain ⟨p0, f_p0⟩ := o_p0; have o_p1 : Own (w1) (w.heap.size) 1 (.int .i64 x.2) := ownJ; obtain ⟨p1, f_p1⟩ := o_p1; have o_q0 : Own (w1) (w.heap.size + 1) 0 (.int .i64 y.1) := ownJ; obtain ⟨q0, f_q0⟩ := o_q0; have o_q1 : Own (w1) (w.heap.size + 1) 1 (.int .i64 y.2) := ownJ; obtain ⟨q1, f_q1⟩ := o_q1; go_wp2; go_ret; exact ⟨(by first | (rw [E.out]; done) | (rw [E.out]; rfl) | (simp [E.out]; done)), belB⟩)
    · have E := Lib.hid (show olpI x y = false from decide_eq_false (fun k => q k.2))
      have q0 : decide ((can y).1 ≤ (can x).2) = false := decide_eq_false q
      obtain ⟨hlt2, hlt3, hlt4, hlt5, hlt6, hlt7, hlt8, hlt9, hlt10, hlt11⟩ := below_add
      go_enter Try.func139, Try.ntmps139
      go_wp2_with fail
      go_region_with (first | (go_at_call 153; (first | (with_reducible refine (canonical_any x _).mono ?_) | (with_reducible refine (canonical_any y _).mono ?_)); rintro e w1 ⟨rfl, hb⟩; have hs : _ ≤ w1.heap.size := hb.size; (try simp at hs); obtain ⟨hc, hf, hl, hn, hm⟩ := behind hb))
      all_goals (have o_p0 : Own (w1) (w.heap.size) 0 (.int .i64 x.1) := ownJ; obtain ⟨p0, f_p0⟩ := o_p0; have o_p1 : Own (w1) (w.heap.size) 1 (.int .i64 x.2) := ownJ; obtain ⟨p1, f_p1⟩ := o_p1; have o_q0 : Own (w1) (w.heap.size + 1) 0 (.int .i64 y.1) := ownJ; obtain ⟨q0, f_q0⟩ := o_q0; have o_q1 : Own (w1) (w.heap.size + 1) 1 (.int .i64 y.2) := ownJ; obtain ⟨q1, f_q1⟩ := o_q1; go_wp2; go_ret; exact ⟨(by first | (rw [E.out]; done) | (rw [E.out]; rfl) | (simp [E.out]; done)), belB⟩)
  · have E := Lib.hid (show olpI x y = false from decide_eq_false (fun k => p k.1))
    have p0 : decide ((can x).1 ≤ (can y).2) = false := decide_eq_false p
    obtain ⟨hlt2, hlt3, hlt4, hlt5, hlt6, hlt7, hlt8, hlt9, hlt10, hlt11⟩ := below_add
    go_enter Try.func139, Try.ntmps139
    go_wp2_with fail
    go_region_with (first | (go_at_call 153; (first | (with_reducible refine (canonical_any x _).mono ?_) | (with_reducible refine (canonical_any y _).mono ?_)); rintro e w1 ⟨rfl, hb⟩; have hs : _ ≤ w1.heap.size := hb.size; (try simp at hs); obtain ⟨hc, hf, hl, hn, hm⟩ := behind hb))
    all_goals (have o_p0 : Own (w1) (w.heap.size) 0 (.int .i64 x.1) := ownJ; obtain ⟨p0, f_p0⟩ := o_p0; have o_p1 : Own (w1) (w.heap.size) 1 (.int .i64 x.2) := ownJ; obtain ⟨p1, f_p1⟩ := o_p1; have o_q0 : Own (w1) (w.heap.size + 1) 0 (.int .i64 y.1) := ownJ; obtain ⟨q0, f_q0⟩ := o_q0; have o_q1 : Own (w1) (w.heap.size + 1) 1 (.int .i64 y.2) := ownJ; obtain ⟨q1, f_q1⟩ := o_q1; go_wp2; go_ret; exact ⟨(by first | (rw [E.out]; done) | (rw [E.out]; rfl) | (simp [E.out]; done)), belB⟩)
end Go.Proofs.Ytmikjgbojknlnaa
