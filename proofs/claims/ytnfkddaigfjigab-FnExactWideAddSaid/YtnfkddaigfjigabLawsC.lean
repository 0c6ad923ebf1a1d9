/- The laws of WideAdd and WideNeg. Conditions: numbers are Wide. -/
import Derived.Test.YtnfkddaigfjigabWideF
import Derived.Deep.DeepCutAuto
namespace Go.Proofs.Ytnfkddaigfjigab
open Go.ChangeShapes Go.WideShapes Go.ChangeAt Go.RowKit
set_option linter.unusedVariables false

set_option maxHeartbeats 8000000 in
theorem law_WideAdd (h l g m : Int) (hh : In64 h) (hl : InU l) (hg : In64 g) (hm : InU m) (w : World) : Calls Try.prog 5 #[.agg #[.int .i64 h, .int .u64 l], .agg #[.int .i64 g, .int .u64 m]] w fun e w' =>
    e = .returned (.bool true) ∧ Below w.heap.size w w' := by
  obtain ⟨u, hu, rfl, rfl⟩ := of_halves h l hh hl
  obtain ⟨v, hv, rfl, rfl⟩ := of_halves g m hg hm
  go_enter Try.func5, Try.ntmps5
  go_upto_region 1 with fail
  go_cut [5, 6] (fun s5 s6 wx => ∃ g : Nat, s5 = .pointer (some ⟨g, 0, none⟩) ∧ s6 = .bool (sumOk u v) ∧ wx.cell? ⟨g, 0, none⟩ = some (.int .i64 (hiW (sumW u v))) ∧ wx.cell? ⟨g, 1, none⟩ = some (.int .u64 (loW (sumW u v))) ∧
    wx.cell? ⟨w.heap.size, 0, none⟩ = some (.int .i64 (hiW u)) ∧ wx.cell? ⟨w.heap.size, 1, none⟩ = some (.int .u64 (loW u)) ∧ wx.cell? ⟨w.heap.size + 1, 0, none⟩ = some (.int .i64 (hiW v)) ∧ wx.cell? ⟨w.heap.size + 1, 1, none⟩ = some (.int .u64 (loW v)) ∧
    Below w.heap.size w wx)
  case first =>
    obtain ⟨hlt2, hlt3, hlt4, hlt5, hlt6, hlt7, hlt8, hlt9, hlt10, hlt11⟩ := below_add; go_region_held3 (fun w' => w'.cell? ⟨w.heap.size, 0, none⟩ = some (.int .i64 (hiW u)) ∧ w'.cell? ⟨w.heap.size, 1, none⟩ = some (.int .u64 (loW u)) ∧ w'.cell? ⟨w.heap.size + 1, 0, none⟩ = some (.int .i64 (hiW v)) ∧ w'.cell? ⟨w.heap.size + 1, 1, none⟩ = some (.int .u64 (loW v))) (simp [go_sem, *]) (first | (go_at_call 15; refine (toWide_exact _ _ _).mono ?_; rintro e w1 ⟨rfl, rfl⟩) | (go_at_call 20; refine (sWideAdd_any u v hu hv _).mono ?_; rintro e w1 ⟨rfl, hb⟩; have hs : _ ≤ w1.heap.size := hb.size; (try simp at hs); obtain ⟨hc, hf, hl, hn, hm⟩ := behind hb))
    all_goals (go_wp2_with fail; go_meet)
    all_goals exact ⟨_, rfl, rfl, by simp [go_sem, *], by simp [go_sem, *], by simp [go_sem, *], by simp [go_sem, *], by simp [go_sem, *], by simp [go_sem, *], (by repeat (first | exact Below.refl _ _ | refine Below.drew ?_ | refine Below.setCell ?_ (by first | omega | (simp; done) | (simp; omega)) _ | refine Below.alloc ?_ (by first | omega | (simp; done) | (simp; omega)) _ | refine Below.trans ?_ (Below.mono (by assumption) (by first | omega | (simp; done) | (simp; omega)))))⟩
  case rest =>
    obtain ⟨g, rfl, rfl, g0, g1, c0, c1, c2, c3, hb1⟩ := hcut
    have zz0 : w.heap.size < wc.heap.size := World.block_lt_of_cell? _ _ c0; obtain ⟨zz0a, zz0b, zz0c, zz0d, zz0e, zz0f, zz0g, zz0h, zz0i⟩ := below_more zz0; have zn0 : ¬ w.heap.size = wc.heap.size := Nat.ne_of_lt zz0; have zm0 : ¬ wc.heap.size = w.heap.size := Nat.ne_of_gt zz0
    have zz1 : w.heap.size + 1 < wc.heap.size := World.block_lt_of_cell? _ _ c2; obtain ⟨zz1a, zz1b, zz1c, zz1d, zz1e, zz1f, zz1g, zz1h, zz1i⟩ := below_more zz1; have zn1 : ¬ w.heap.size + 1 = wc.heap.size := Nat.ne_of_lt zz1; have zm1 : ¬ wc.heap.size = w.heap.size + 1 := Nat.ne_of_gt zz1
    have zz2 : g < wc.heap.size := World.block_lt_of_cell? _ _ g0; obtain ⟨zz2a, zz2b, zz2c, zz2d, zz2e, zz2f, zz2g, zz2h, zz2i⟩ := below_more zz2; have zn2 : ¬ g = wc.heap.size := Nat.ne_of_lt zz2; have zm2 : ¬ wc.heap.size = g := Nat.ne_of_gt zz2
    go_upto_region 2 with fail
    go_cut [7, 8] (fun s7 s8 wx => ∃ k : Nat, s7 = .pointer (some ⟨k, 0, none⟩) ∧ s8 = .bool (sumOk u v) ∧ wx.cell? ⟨k, 0, none⟩ = some (.int .i64 (hiW (sumW u v))) ∧ wx.cell? ⟨k, 1, none⟩ = some (.int .u64 (loW (sumW u v))) ∧
      wx.cell? ⟨g, 0, none⟩ = some (.int .i64 (hiW (sumW u v))) ∧ wx.cell? ⟨g, 1, none⟩ = some (.int .u64 (loW (sumW u v))) ∧ Below wc.heap.size wc wx)
    case first =>
      obtain ⟨hlt2, hlt3, hlt4, hlt5, hlt6, hlt7, hlt8, hlt9, hlt10, hlt11⟩ := below_add; go_region_held3 (fun w' => w'.cell? ⟨w.heap.size, 0, none⟩ = some (.int .i64 (hiW u)) ∧ w'.cell? ⟨w.heap.size, 1, none⟩ = some (.int .u64 (loW u)) ∧ w'.cell? ⟨w.heap.size + 1, 0, none⟩ = some (.int .i64 (hiW v)) ∧ w'.cell? ⟨w.heap.size + 1, 1, none⟩ = some (.int .u64 (loW v)) ∧ w'.cell? ⟨g, 0, none⟩ = some (.int .i64 (hiW (sumW u v))) ∧ w'.cell? ⟨g, 1, none⟩ = some (.int .u64 (loW (sumW u v)))) (simp [go_sem, *]) (first | (go_at_call 15; refine (toWide_exact _ _ _).mono ?_; rintro e w1 ⟨rfl, rfl⟩) | (go_at_call 21; refine (WideAdd_any u v hu hv _).mono ?_; rintro e w1 ⟨rfl, hb⟩; have hs : _ ≤ w1.heap.size := hb.size; (try simp at hs); obtain ⟨hc, hf, hl, hn, hm⟩ := behind hb))
      all_goals (go_wp2_with fail; go_meet)
      all_goals exact ⟨_, rfl, rfl, by simp [go_sem, *], by simp [go_sem, *], by simp [go_sem, *], by simp [go_sem, *], (by repeat (first | exact Below.refl _ _ | refine Below.drew ?_ | refine Below.setCell ?_ (by first | omega | (simp; done) | (simp; omega)) _ | refine Below.alloc ?_ (by first | omega | (simp; done) | (simp; omega)) _ | refine Below.trans ?_ (Below.mono (by assumption) (by first | omega | (simp; done) | (simp; omega)))))⟩
    case rest =>
      obtain ⟨k, rfl, rfl, k0, k1, g2, g3, hb2⟩ := hcut
      go_wp2_with fail
      refine (eqWide_same _ _ _).mono ?_
      rintro e w5 ⟨rfl, hb5⟩
      have hs5 : _ ≤ w5.heap.size := hb5.size
      try simp at hs5
      have hs2 := hb2.size
      have hs1 := hb1.size
      go_wp2
      go_ret
      exact ⟨rfl, (by repeat (first | exact Below.refl _ _ | refine Below.drew ?_ | refine Below.setCell ?_ (by first | omega | (simp; done) | (simp; omega)) _ | refine Below.alloc ?_ (by first | omega | (simp; done) | (simp; omega)) _ | refine Below.trans ?_ (Below.mono (by assumption) (by first | omega | (simp; done) | (simp; omega)))))⟩
theorem law_WideNeg (h l : Int) (hh : In64 h) (hl : InU l) (w : World) : Calls Try.prog 6 #[.agg #[.int .i64 h, .int .u64 l]] w fun e w' =>
    e = .returned (.bool true) ∧ Below w.heap.size w w' := by
  obtain ⟨v, hv, rfl, rfl⟩ := of_halves h l hh hl
  go_enter Try.func6, Try.ntmps6
  go_wp2_with fail
  refine (toWide_any _ _ _).mono ?_
  rintro e w1 ⟨rfl, hb1⟩
  have hs1 : _ ≤ w1.heap.size := hb1.size
  try simp at hs1
  obtain ⟨hc1, hf1⟩ := old_kept hb1; have hz1 : w.heap.size < w1.heap.size := Nat.lt_of_lt_of_le (by first | omega | (simp; done) | (simp; omega)) hb1.size
  go_wp2_with fail
  refine (sWideNeg_any v hv _).mono ?_
  rintro e w2 ⟨rfl, hb2⟩
  have hs2 : _ ≤ w2.heap.size := hb2.size
  try simp at hs2
  obtain ⟨hc2, hf2⟩ := old_kept hb2; have hz2 : w.heap.size < w2.heap.size := Nat.lt_of_lt_of_le (by first | omega | (simp; done) | (simp; omega)) hb2.size
  go_wp2_with fail
  refine (toWide_any _ _ _).mono ?_
  rintro e w3 ⟨rfl, hb3⟩
  have hs3 : _ ≤ w3.heap.size := hb3.size
  try simp at hs3
  obtain ⟨hc3, hf3⟩ := old_kept hb3; have hz3 : w2.heap.size < w3.heap.size := Nat.lt_of_lt_of_le (by first | omega | (simp; done) | (simp; omega)) hb3.size
  go_wp2_with fail
  refine (WideNeg_any v hv _).mono ?_
  rintro e w4 ⟨rfl, hb4⟩
  have hs4 : _ ≤ w4.heap.size := hb4.size
  try simp at hs4
  obtain ⟨hc4, hf4⟩ := old_kept hb4; have hz4 : w2.heap.size < w4.heap.size := Nat.lt_of_lt_of_le (by first | omega | (simp; done) | (simp; omega)) hb4.size
  go_wp2_with fail
  refine (eqWide_same _ _ _).mono ?_
  rintro e w5 ⟨rfl, hb5⟩
  have hs5 : _ ≤ w5.heap.size := hb5.size
  try simp at hs5
  go_wp2
  go_ret
  exact ⟨rfl, (by repeat (first | exact Below.refl _ _ | refine Below.drew ?_ | refine Below.setCell ?_ (by first | omega | (simp; done) | (simp; omega)) _ | refine Below.alloc ?_ (by first | omega | (simp; done) | (simp; omega)) _ | refine Below.trans ?_ (Below.mono (by assumption) (by first | omega | (simp; done) | (simp; omega)))))⟩
end Go.Proofs.Ytnfkddaigfjigab
