/- Contracts of the arc sines and arc cosines of an interval in the model. Conditions: numbers are int64. -/
import Derived.Test.YtmikjgbojknlnaaGreatDoorAtE
import Derived.Deep.RegionHeld3
import Derived.Deep.DeepCutAuto
import Derived.Outline
namespace Go.Proofs.YtmikjgbojknlnaaGreatDoor
open Go.ChangeShapes Go.WideShapes Go.ChangeAt Go.RowKit
set_option linter.unusedVariables false
set_option maxRecDepth 100000
set_option linter.unusedSimpArgs false
set_option maxHeartbeats 1000000
theorem sAsinI_any (x : Iv) (w : World) : Calls Tryz.prog 26 #[.agg #[.int .i64 x.1, .int .i64 x.2]] w fun e w' =>
    e = .returned (.agg #[.int .i64 (asnI x).1, .int .i64 (asnI x).2]) ∧ Below w.heap.size w w' := by
  have M := Lib.hid (fun w => sMeetI_any x rng w)
  have G := Lib.hid (fun w => l06Ring_any w)
  cases o : olpI x rng
  · have E := Lib.hid (show asnI x = whl from if_neg (by rw [o]; simp))
    rw [o] at M
    clear o
    generalize metI x rng = c at *
    go_enter Tryz.func26, Tryz.ntmps26
    go_upto_region 1 with fail
    go_cut [3, 4] (fun s3 s4 wx => ∃ h : Nat, s3 = .pointer (some ⟨h, 0, none⟩) ∧ s4 = .bool false ∧ w.heap.size + 1 < h ∧ Own wx h 0 (.int .i64 c.1) ∧ Own wx h 1 (.int .i64 c.2) ∧ Own wx (w.heap.size + 1) 0 (.int .i64 0) ∧ Own wx (w.heap.size + 1) 1 (.int .i64 0) ∧ Below w.heap.size w wx)
    case first =>
      obtain ⟨hlt2, hlt3, hlt4, hlt5, hlt6, hlt7, hlt8, hlt9, hlt10, hlt11⟩ := below_add; go_region_held3 (fun w' => w'.cell? ⟨w.heap.size, 0, none⟩ = some (.int .i64 x.1) ∧ w'.cell? ⟨w.heap.size, 1, none⟩ = some (.int .i64 x.2)) (first | (with_reducible exact ((And.imp (cell_kept (by assumption)) (cell_kept (by assumption))) (by assumption))) | (with_reducible exact ((And.imp (cell_alloc) (cell_alloc)) (by assumption))) | (with_reducible exact ((And.imp (fun h => cell_far (by first | (simp; done) | (simp; omega) | (dsimp only; omega)) (cell_far (by first | (simp; done) | (simp; omega) | (dsimp only; omega)) h)) (fun h => cell_far (by first | (simp; done) | (simp; omega) | (dsimp only; omega)) (cell_far (by first | (simp; done) | (simp; omega) | (dsimp only; omega)) h))) (by assumption))) | (refine ⟨?_, ?_⟩ <;> repeat (first | (with_reducible assumption) | (with_reducible refine cell_far (by first | (simp; done) | (simp; omega) | (dsimp only; omega)) ?_) | (with_reducible refine cell_drew ?_) | (with_reducible refine cell_drewN ?_) | (with_reducible refine cell_kept (by assumption) ?_) | (simp [go_sem]; done) | (with_reducible refine cell_alloc ?_))) | (simp [go_sem, *]; done)) (first | (go_at_call 79; refine (G.out _).mono ?_; rintro e w1 ⟨rfl, hb⟩; have hs : _ ≤ w1.heap.size := hb.size; (try simp at hs); obtain ⟨hc, hf, hl, hn, hm⟩ := behind hb) | (go_at_call 67; refine (M.out _).mono ?_; rintro e w1 ⟨rfl, hb⟩; have hs : _ ≤ w1.heap.size := hb.size; (try simp at hs); obtain ⟨hc, hf, hl, hn, hm⟩ := behind hb))
      all_goals (go_wp2_with fail; go_meet)
      · have o_jr0 : Own (w1) (w.heap.size + 1) 0 (.int .i64 0) := ownJ; have jr0 := o_jr0.1; have f_jr0 := o_jr0.2; have o_jr1 : Own (w1) (w.heap.size + 1) 1 (.int .i64 0) := ownJ; have jr1 := o_jr1.1; have f_jr1 := o_jr1.2
        have lz := World.block_lt_of_cell? _ _ jr0
        exact ⟨_, rfl, rfl, lz, ⟨by simp [go_sem], by simp [go_sem]⟩, ⟨by simp [go_sem], by simp [go_sem]⟩, own_alloc o_jr0, own_alloc o_jr1, belB⟩
      · have o_jr0 : Own (w1) (w.heap.size + 1) 0 (.int .i64 0) := ownJ; have jr0 := o_jr0.1; have f_jr0 := o_jr0.2; have o_jr1 : Own (w1) (w.heap.size + 1) 1 (.int .i64 0) := ownJ; have jr1 := o_jr1.1; have f_jr1 := o_jr1.2
        have lz := World.block_lt_of_cell? _ _ jr0
        refine ⟨_, rfl, rfl, by omega, own_next (by decide) (own_put (v := .int .i64 0) ?_), own_put (v := .int .i64 0) (own_next (by decide) ?_), own_far ?_ (own_far ?_ o_jr0), own_far ?_ (own_far ?_ o_jr1), belB⟩
        · repeat (first | (with_reducible assumption) | (with_reducible refine own_drew ?_) | (with_reducible refine own_drewN ?_) | (with_reducible refine own_kept (by assumption) ?_) | (refine ⟨?_, ?_⟩ <;> simp [go_sem]; done) | (with_reducible refine own_alloc ?_))
        · repeat (first | (with_reducible assumption) | (with_reducible refine own_drew ?_) | (with_reducible refine own_drewN ?_) | (with_reducible refine own_kept (by assumption) ?_) | (refine ⟨?_, ?_⟩ <;> simp [go_sem]; done) | (with_reducible refine own_alloc ?_))
        all_goals first | omega | (dsimp only; omega) | (simp; omega)
      · have o_jr0 : Own (w1) (w.heap.size + 1) 0 (.int .i64 0) := ownJ; have jr0 := o_jr0.1; have f_jr0 := o_jr0.2; have o_jr1 : Own (w1) (w.heap.size + 1) 1 (.int .i64 0) := ownJ; have jr1 := o_jr1.1; have f_jr1 := o_jr1.2
        have lz := World.block_lt_of_cell? _ _ jr0
        refine ⟨_, rfl, rfl, by omega, own_next (by decide) (own_put (v := .int .i64 0) ?_), own_put (v := .int .i64 0) (own_next (by decide) ?_), own_far ?_ (own_far ?_ o_jr0), own_far ?_ (own_far ?_ o_jr1), belB⟩
        · repeat (first | (with_reducible assumption) | (with_reducible refine own_drew ?_) | (with_reducible refine own_drewN ?_) | (with_reducible refine own_kept (by assumption) ?_) | (refine ⟨?_, ?_⟩ <;> simp [go_sem]; done) | (with_reducible refine own_alloc ?_))
        · repeat (first | (with_reducible assumption) | (with_reducible refine own_drew ?_) | (with_reducible refine own_drewN ?_) | (with_reducible refine own_kept (by assumption) ?_) | (refine ⟨?_, ?_⟩ <;> simp [go_sem]; done) | (with_reducible refine own_alloc ?_))
        all_goals first | omega | (dsimp only; omega) | (simp; omega)
    case rest =>
      obtain ⟨h, rfl, rfl, lh, V0, V1, R0, R1, hb⟩ := hcut
      obtain ⟨cv0, fv0⟩ := id V0
      obtain ⟨cv1, fv1⟩ := id V1
      have lh2 : h < wc.heap.size := World.block_lt_of_cell? _ _ cv0
      have lh3 : w.heap.size + 1 < wc.heap.size := by omega
      go_wp2_with fail
      refine (sWhole_any _).mono ?_
      rintro e w2 ⟨rfl, hb2⟩
      have hs2 : _ ≤ w2.heap.size := hb2.size
      try simp at hs2
      have o_q20 : Own (w2) (w.heap.size + 1) 0 (.int .i64 0) := ownJ; obtain ⟨q20, f_q20⟩ := o_q20; have o_q21 : Own (w2) (w.heap.size + 1) 1 (.int .i64 0) := ownJ; obtain ⟨q21, f_q21⟩ := o_q21
      go_wp2
      exact bodyPost_ret (v := .agg #[.int .i64 (-1152921504606846976), .int .i64 1152921504606846976]) (by simp [results, Tryz.results26, go_sem, q20, q21]) rfl ⟨(by first | (rw [E.out]; done) | (rw [E.out]; rfl) | (simp [E.out]; done)), belB⟩
  · have E := Lib.hid (show asnI x = hulI (asnF (metI x rng).1) (asnF (metI x rng).2) from if_pos o)
    obtain ⟨m0, m1⟩ := met_in o
    rw [o] at M
    have A1 := Lib.hid (fun w => sAsinAt_any (metI x rng).1 m0 w)
    have A2 := Lib.hid (fun w => sAsinAt_any (metI x rng).2 m1 w)
    have H := Lib.hid (fun w => sHullI_any (asnF (metI x rng).1) (asnF (metI x rng).2) w)
    clear o m0 m1
    generalize asnI x = Y at *
    generalize hulI (asnF (metI x rng).1) (asnF (metI x rng).2) = z at *
    generalize asnF (metI x rng).1 = a1 at *
    generalize asnF (metI x rng).2 = a2 at *
    generalize metI x rng = c at *
    go_enter Tryz.func26, Tryz.ntmps26
    go_upto_region 1 with fail
    go_cut [3, 4] (fun s3 s4 wx => ∃ h : Nat, s3 = .pointer (some ⟨h, 0, none⟩) ∧ s4 = .bool true ∧ w.heap.size + 1 < h ∧ Own wx h 0 (.int .i64 c.1) ∧ Own wx h 1 (.int .i64 c.2) ∧ Own wx (w.heap.size + 1) 0 (.int .i64 0) ∧ Own wx (w.heap.size + 1) 1 (.int .i64 0) ∧ Below w.heap.size w wx)
    case first =>
      obtain ⟨hlt2, hlt3, hlt4, hlt5, hlt6, hlt7, hlt8, hlt9, hlt10, hlt11⟩ := below_add; go_region_held3 (fun w' => w'.cell? ⟨w.heap.size, 0, none⟩ = some (.int .i64 x.1) ∧ w'.cell? ⟨w.heap.size, 1, none⟩ = some (.int .i64 x.2)) (first | (with_reducible exact ((And.imp (cell_kept (by assumption)) (cell_kept (by assumption))) (by assumption))) | (with_reducible exact ((And.imp (cell_alloc) (cell_alloc)) (by assumption))) | (with_reducible exact ((And.imp (fun h => cell_far (by first | (simp; done) | (simp; omega) | (dsimp only; omega)) (cell_far (by first | (simp; done) | (simp; omega) | (dsimp only; omega)) h)) (fun h => cell_far (by first | (simp; done) | (simp; omega) | (dsimp only; omega)) (cell_far (by first | (simp; done) | (simp; omega) | (dsimp only; omega)) h))) (by assumption))) | (refine ⟨?_, ?_⟩ <;> repeat (first | (with_reducible assumption) | (with_reducible refine cell_far (by first | (simp; done) | (simp; omega) | (dsimp only; omega)) ?_) | (with_reducible refine cell_drew ?_) | (with_reducible refine cell_drewN ?_) | (with_reducible refine cell_kept (by assumption) ?_) | (simp [go_sem]; done) | (with_reducible refine cell_alloc ?_))) | (simp [go_sem, *]; done)) (first | (go_at_call 79; refine (G.out _).mono ?_; rintro e w1 ⟨rfl, hb⟩; have hs : _ ≤ w1.heap.size := hb.size; (try simp at hs); obtain ⟨hc, hf, hl, hn, hm⟩ := behind hb) | (go_at_call 67; refine (M.out _).mono ?_; rintro e w1 ⟨rfl, hb⟩; have hs : _ ≤ w1.heap.size := hb.size; (try simp at hs); obtain ⟨hc, hf, hl, hn, hm⟩ := behind hb))
      all_goals (go_wp2_with fail; go_meet)
      · have o_jr0 : Own (w1) (w.heap.size + 1) 0 (.int .i64 0) := ownJ; have jr0 := o_jr0.1; have f_jr0 := o_jr0.2; have o_jr1 : Own (w1) (w.heap.size + 1) 1 (.int .i64 0) := ownJ; have jr1 := o_jr1.1; have f_jr1 := o_jr1.2
        have lz := World.block_lt_of_cell? _ _ jr0
        exact ⟨_, rfl, rfl, lz, ⟨by simp [go_sem], by simp [go_sem]⟩, ⟨by simp [go_sem], by simp [go_sem]⟩, own_alloc o_jr0, own_alloc o_jr1, belB⟩
      · have o_jr0 : Own (w1) (w.heap.size + 1) 0 (.int .i64 0) := ownJ; have jr0 := o_jr0.1; have f_jr0 := o_jr0.2; have o_jr1 : Own (w1) (w.heap.size + 1) 1 (.int .i64 0) := ownJ; have jr1 := o_jr1.1; have f_jr1 := o_jr1.2
        have lz := World.block_lt_of_cell? _ _ jr0
        refine ⟨_, rfl, rfl, by omega, own_next (by decide) (own_put (v := .int .i64 0) ?_), own_put (v := .int .i64 0) (own_next (by decide) ?_), own_far ?_ (own_far ?_ o_jr0), own_far ?_ (own_far ?_ o_jr1), belB⟩
        · repeat (first | (with_reducible assumption) | (with_reducible refine own_drew ?_) | (with_reducible refine own_drewN ?_) | (with_reducible refine own_kept (by assumption) ?_) | (refine ⟨?_, ?_⟩ <;> simp [go_sem]; done) | (with_reducible refine own_alloc ?_))
        · repeat (first | (with_reducible assumption) | (with_reducible refine own_drew ?_) | (with_reducible refine own_drewN ?_) | (with_reducible refine own_kept (by assumption) ?_) | (refine ⟨?_, ?_⟩ <;> simp [go_sem]; done) | (with_reducible refine own_alloc ?_))
        all_goals first | omega | (dsimp only; omega) | (simp; omega)
      · have o_jr0 : Own (w1) (w.heap.size + 1) 0 (.int .i64 0) := ownJ; have jr0 := o_jr0.1; have f_jr0 := o_jr0.2; have o_jr1 : Own (w1) (w.heap.size + 1) 1 (.int .i64 0) := ownJ; have jr1 := o_jr1.1; have f_jr1 := o_jr1.2
        have lz := World.block_lt_of_cell? _ _ jr0
        refine ⟨_, rfl, rfl, by omega, own_next (by decide) (own_put (v := .int .i64 0) ?_), own_put (v := .int .i64 0) (own_next (by decide) ?_), own_far ?_ (own_far ?_ o_jr0), own_far ?_ (own_far ?_ o_jr1), belB⟩
        · repeat (first | (with_reducible assumption) | (with_reducible refine own_drew ?_) | (with_reducible refine own_drewN ?_) | (with_reducible refine own_kept (by assumption) ?_) | (refine ⟨?_, ?_⟩ <;> simp [go_sem]; done) | (with_reducible refine own_alloc ?_))
        · repeat (first | (with_reducible assumption) | (with_reducible refine own_drew ?_) | (with_reducible refine own_drewN ?_) | (with_reducible refine own_kept (by assumption) ?_) | (refine ⟨?_, ?_⟩ <;> simp [go_sem]; done) | (with_reducible refine own_alloc ?_))
        all_goals first | omega | (dsimp only; omega) | (simp; omega)
    case rest =>
      obtain ⟨h, rfl, rfl, lh, V0, V1, R0, R1, hb⟩ := hcut
      obtain ⟨cv0, fv0⟩ := id V0
      obtain ⟨cv1, fv1⟩ := id V1
      have lh2 : h < wc.heap.size := World.block_lt_of_cell? _ _ cv0
      have lh3 : w.heap.size + 1 < wc.heap.size := by omega
      go_wp2_with fail
      have z0 := pslot_of (w := wc) (a := ⟨w.heap.size + 1, 0, none⟩) (v := .int .i64 0) R0.1 R0.2
      have z1 := pslot_of (w := wc) (a := ⟨w.heap.size + 1, 1, none⟩) (v := .int .i64 0) R1.1 R1.2
      obtain ⟨hlt2, hlt3, hlt4, hlt5, hlt6, hlt7, hlt8, hlt9, hlt10, hlt11⟩ := below_add; go_region_held3 (fun w' => w'.cell? ⟨h, 0, none⟩ = some (.int .i64 c.1) ∧ w'.cell? ⟨h, 1, none⟩ = some (.int .i64 c.2) ∧ (w'.cell? ⟨w.heap.size + 1, 0, none⟩ = some (peek w' ⟨w.heap.size + 1, 0, none⟩) ∧ w'.frozen? ⟨w.heap.size + 1, 0, none⟩ = false) ∧ (w'.cell? ⟨w.heap.size + 1, 1, none⟩ = some (peek w' ⟨w.heap.size + 1, 1, none⟩) ∧ w'.frozen? ⟨w.heap.size + 1, 1, none⟩ = false)) (first | (with_reducible exact ((And.imp (cell_kept (by assumption)) (And.imp (cell_kept (by assumption)) (And.imp (pslot_kept (by assumption)) (pslot_kept (by assumption))))) (by assumption))) | (with_reducible exact ((And.imp (cell_alloc) (And.imp (cell_alloc) (And.imp (pslot_alloc) (pslot_alloc)))) (by assumption))) | (with_reducible exact ((And.imp (fun h => cell_far (by first | (simp; done) | (simp; omega) | (dsimp only; omega)) (cell_far (by first | (simp; done) | (simp; omega) | (dsimp only; omega)) h)) (And.imp (fun h => cell_far (by first | (simp; done) | (simp; omega) | (dsimp only; omega)) (cell_far (by first | (simp; done) | (simp; omega) | (dsimp only; omega)) h)) (And.imp (fun h => pslot_set (pslot_set h)) (fun h => pslot_set (pslot_set h))))) (by assumption))) | (refine ⟨?_, ?_, ?_, ?_⟩ <;> repeat (first | (with_reducible assumption) | (with_reducible refine cell_far (by first | (simp; done) | (simp; omega) | (dsimp only; omega)) ?_) | (with_reducible refine cell_drew ?_) | (with_reducible refine cell_drewN ?_) | (with_reducible refine cell_kept (by assumption) ?_) | (with_reducible exact pslot_of (by assumption) (by assumption)) | (with_reducible refine pslot_drew ?_) | (with_reducible refine pslot_kept (by assumption) ?_) | (with_reducible refine pslot_alloc ?_) | (simp [go_sem]; done) | (with_reducible refine cell_alloc ?_))) | (simp [go_sem, *]; done)) (first | (go_at_call 23; with_reducible refine (A1.out _).mono ?_; rintro e w1 ⟨rfl, hb⟩; have hs : _ ≤ w1.heap.size := hb.size; (try simp at hs); obtain ⟨hc, hf, hl, hn, hm⟩ := behind hb) | (go_at_call 23; with_reducible refine (A2.out _).mono ?_; rintro e w1 ⟨rfl, hb⟩; have hs : _ ≤ w1.heap.size := hb.size; (try simp at hs); obtain ⟨hc, hf, hl, hn, hm⟩ := behind hb) | (go_at_call 80; refine (H.out _).mono ?_; rintro e w1 ⟨rfl, hb⟩; have hs : _ ≤ w1.heap.size := hb.size; (try simp at hs); obtain ⟨hc, hf, hl, hn, hm⟩ := behind hb))
      all_goals (go_wp2; have o_j0 : Own (w1) (w.heap.size + 1) 0 (.int .i64 0) := ownJ; obtain ⟨j0, f_j0⟩ := o_j0; have o_j1 : Own (w1) (w.heap.size + 1) 1 (.int .i64 0) := ownJ; obtain ⟨j1, f_j1⟩ := o_j1; exact bodyPost_ret (v := .agg #[.int .i64 (z).1, .int .i64 (z).2]) (by simp [results, Tryz.results26, go_sem, j0, j1]) rfl ⟨by rw [E.out], belB⟩)
theorem sAcosI_any (x : Iv) (w : World) : Calls Tryz.prog 28 #[.agg #[.int .i64 x.1, .int .i64 x.2]] w fun e w' =>
    e = .returned (.agg #[.int .i64 (acsI x).1, .int .i64 (acsI x).2]) ∧ Below w.heap.size w w' := by
  have T := Lib.hid (fun w => sTurnI_any 1 w)
  have A := Lib.hid (fun w => sAsinI_any x w)
  have S := Lib.hid (fun w => sSubI_any (turI 1) (asnI x) w)
  have E := Lib.hid (show acsI x = subI (turI 1) (asnI x) from rfl)
  generalize acsI x = Y at *
  generalize subI (turI 1) (asnI x) = z at *
  generalize asnI x = a at *
  generalize turI 1 = t at *
  skip
  go_enter Tryz.func28, Tryz.ntmps28
  go_wp2_with fail
  have z0 := pslot_of (w := ((w.alloc (.cells #[.int .i64 x.1, .int .i64 x.2] 26)).alloc (.cells #[.int .i64 0, .int .i64 0] 26))) (a := ⟨w.heap.size + 1, 0, none⟩) (v := .int .i64 0) (by simp [go_sem]) (by simp [go_sem])
  have z1 := pslot_of (w := ((w.alloc (.cells #[.int .i64 x.1, .int .i64 x.2] 26)).alloc (.cells #[.int .i64 0, .int .i64 0] 26))) (a := ⟨w.heap.size + 1, 1, none⟩) (v := .int .i64 0) (by simp [go_sem]) (by simp [go_sem])
  obtain ⟨hlt2, hlt3, hlt4, hlt5, hlt6, hlt7, hlt8, hlt9, hlt10, hlt11⟩ := below_add; go_region_held3 (fun w' => w'.cell? ⟨w.heap.size, 0, none⟩ = some (.int .i64 x.1) ∧ w'.cell? ⟨w.heap.size, 1, none⟩ = some (.int .i64 x.2) ∧ (w'.cell? ⟨w.heap.size + 1, 0, none⟩ = some (peek w' ⟨w.heap.size + 1, 0, none⟩) ∧ w'.frozen? ⟨w.heap.size + 1, 0, none⟩ = false) ∧ (w'.cell? ⟨w.heap.size + 1, 1, none⟩ = some (peek w' ⟨w.heap.size + 1, 1, none⟩) ∧ w'.frozen? ⟨w.heap.size + 1, 1, none⟩ = false)) (first | (with_reducible exact ((And.imp (cell_kept (by assumption)) (And.imp (cell_kept (by assumption)) (And.imp (pslot_kept (by assumption)) (pslot_kept (by assumption))))) (by assumption))) | (with_reducible exact ((And.imp (cell_alloc) (And.imp (cell_alloc) (And.imp (pslot_alloc) (pslot_alloc)))) (by assumption))) | (with_reducible exact ((And.imp (fun h => cell_far (by first | (simp; done) | (simp; omega) | (dsimp only; omega)) (cell_far (by first | (simp; done) | (simp; omega) | (dsimp only; omega)) h)) (And.imp (fun h => cell_far (by first | (simp; done) | (simp; omega) | (dsimp only; omega)) (cell_far (by first | (simp; done) | (simp; omega) | (dsimp only; omega)) h)) (And.imp (fun h => pslot_set (pslot_set h)) (fun h => pslot_set (pslot_set h))))) (by assumption))) | (refine ⟨?_, ?_, ?_, ?_⟩ <;> repeat (first | (with_reducible assumption) | (with_reducible refine cell_far (by first | (simp; done) | (simp; omega) | (dsimp only; omega)) ?_) | (with_reducible refine cell_drew ?_) | (with_reducible refine cell_drewN ?_) | (with_reducible refine cell_kept (by assumption) ?_) | (with_reducible exact pslot_of (by assumption) (by assumption)) | (with_reducible refine pslot_drew ?_) | (with_reducible refine pslot_kept (by assumption) ?_) | (with_reducible refine pslot_alloc ?_) | (simp [go_sem]; done) | (with_reducible refine cell_alloc ?_))) | (simp [go_sem, *]; done)) (first | (go_at_call 83; refine (T.out _).mono ?_; rintro e w1 ⟨rfl, hb⟩; have hs : _ ≤ w1.heap.size := hb.size; (try simp at hs); obtain ⟨hc, hf, hl, hn, hm⟩ := behind hb) | (go_at_call 26; refine (A.out _).mono ?_; rintro e w1 ⟨rfl, hb⟩; have hs : _ ≤ w1.heap.size := hb.size; (try simp at hs); obtain ⟨hc, hf, hl, hn, hm⟩ := behind hb) | (go_at_call 82; refine (S.out _).mono ?_; rintro e w1 ⟨rfl, hb⟩; have hs : _ ≤ w1.heap.size := hb.size; (try simp at hs); obtain ⟨hc, hf, hl, hn, hm⟩ := behind hb))
  all_goals (go_wp2; have o_j0 : Own (w1) (w.heap.size + 1) 0 (.int .i64 0) := ownJ; obtain ⟨j0, f_j0⟩ := o_j0; have o_j1 : Own (w1) (w.heap.size + 1) 1 (.int .i64 0) := ownJ; obtain ⟨j1, f_j1⟩ := o_j1; exact bodyPost_ret (v := .agg #[.int .i64 (z).1, .int .i64 (z).2]) (by simp [results, Tryz.results28, go_sem, j0, j1]) rfl ⟨by rw [E.out], belB⟩)
end Go.Proofs.YtmikjgbojknlnaaGreatDoor
