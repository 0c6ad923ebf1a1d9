/- A contract of the function that replaces the last term of a series in the program. Conditions: as the lemma says. -/
import Derived.Test.YtnnanbaldcjfiaaArD
import Derived.Deep.RegionLawGrows
import Derived.OwnWalk
import Derived.Handy
import Derived.Outline
namespace Go.Proofs.Ytnnanbaldcjfiaa
open Go.ChangeShapes Go.WideShapes Go.ChangeAt Go.RowKit
set_option linter.unusedVariables false
set_option maxRecDepth 100000
set_option linter.unusedSimpArgs false
set_option maxHeartbeats 1000000
def ConS (C : World → Prop) (L : Array Bool) (u : World) : Prop := C u
theorem ConS.mk {C : World → Prop} {L : Array Bool} {u : World} (h : C u) : ConS C L u := h
/-- The cells of the first intervals of a series. -/
def cellsL (xs : Nat → Iv) (k : Nat) : List Value := (List.range (2 * k)).map fun i => if i % 2 = 0 then .int .i64 (xs (i / 2)).1 else .int .i64 (xs (i / 2)).2
theorem cellsL_length (xs : Nat → Iv) (k : Nat) : (cellsL xs k).length = k * 2 := by unfold cellsL; simp [Nat.mul_comm]
theorem cellsL_get (xs : Nat → Iv) (k i : Nat) (u : Value) (h : (cellsL xs k)[i]? = some u) : i < 2 * k ∧ u = if i % 2 = 0 then .int .i64 (xs (i / 2)).1 else .int .i64 (xs (i / 2)).2 := by
  unfold cellsL at h
  rw [List.getElem?_map] at h
  by_cases l : i < 2 * k
  · rw [List.getElem?_range l] at h; simp at h; exact ⟨l, h.symm⟩
  · rw [List.getElem?_eq_none (by simp; omega)] at h; cases h
theorem cellsL_at (xs : Nat → Iv) (k j : Nat) (h : j < k) : (cellsL xs k)[2 * j]? = some (.int .i64 (xs j).1) ∧ (cellsL xs k)[2 * j + 1]? = some (.int .i64 (xs j).2) := by
  unfold cellsL
  rw [List.getElem?_map, List.getElem?_map, List.getElem?_range (by omega), List.getElem?_range (by omega)]
  have a : (2 * j) % 2 = 0 := by omega
  have b : (2 * j + 1) % 2 = 1 := by omega
  have c : (2 * j) / 2 = j := by omega
  have d : (2 * j + 1) / 2 = j := by omega
  simp [a, b, c, d]
theorem cellsL_succ (xs : Nat → Iv) (k : Nat) : cellsL xs (k + 1) = cellsL xs k ++ [.int .i64 (xs k).1, .int .i64 (xs k).2] := by
  unfold cellsL
  rw [show 2 * (k + 1) = 2 * k + 1 + 1 by omega, List.range_succ, List.range_succ, List.map_append, List.map_append]
  have a : (2 * k) % 2 = 0 := by omega
  have b : (2 * k + 1) % 2 = 1 := by omega
  have c : (2 * k) / 2 = k := by omega
  have d : (2 * k + 1) / 2 = k := by omega
  simp [a, b, c, d]
theorem cellsL_same {xs ys : Nat → Iv} {k : Nat} (h : ∀ j, j < k → xs j = ys j) : cellsL xs k = cellsL ys k := by
  unfold cellsL
  apply List.map_congr_left
  intro i hi
  rw [h (i / 2) (by simp at hi; omega)]
/-- The last one replaced. -/
def resF (xs : Nat → Iv) (m j : Nat) : Iv := if j = m then hulI (xs m) (intI 0) else xs j
theorem resF_cells (xs : Nat → Iv) (m : Nat) : cellsL (resF xs m) (m + 1) = cellsL xs m ++ [.int .i64 (hulI (xs m) (intI 0)).1, .int .i64 (hulI (xs m) (intI 0)).2] := by
  rw [cellsL_succ, cellsL_same (ys := xs) (fun j h => by unfold resF; rw [if_neg (by omega)])]
  unfold resF; rw [if_pos rfl]
theorem infoIv : (Try.prog.info? 23).map (fun i => (i.zero, i.size, i.bytes)) = some (some (.agg #[.int .i64 0, .int .i64 0]), 2, 16) := by kernel_rfl
theorem withRest_any (xs : Nat → Iv) (b m cap : Nat) (hm : m ≤ 100) (hcap : m + 1 ≤ cap) (w : World) (hc : ∀ j, j < m + 1 → w.cell? ⟨b, 2 * j, none⟩ = some (.int .i64 (xs j).1) ∧ w.cell? ⟨b, 2 * j + 1, none⟩ = some (.int .i64 (xs j).2)) : Calls Try.prog 80 #[.slice (some ⟨b, 0, none⟩) (m + 1) cap] w fun e w' =>
    ∃ g c, e = .returned (.slice (some ⟨g, 0, none⟩) (m + 1) c) ∧ (∀ j, j < m + 1 → w'.cell? ⟨g, 2 * j, none⟩ = some (.int .i64 (resF xs m j).1) ∧ w'.cell? ⟨g, 2 * j + 1, none⟩ = some (.int .i64 (resF xs m j).2)) ∧ Below w.heap.size w w' := by
  have I0 := Lib.hid (fun w => Integer_any 0 (by unfold In64; omega) w)
  have HU := Lib.hid (fun w => HullI_any (xs m) (intI 0) w)
  have HC := Lib.hid hc
  obtain ⟨x0, x1⟩ := hc m (by omega)
  rw [Nat.mul_comm] at x0 x1
  obtain ⟨i0, hi, hz0, hz1, hz2⟩ := info_parts infoIv
  obtain ⟨hu, hhu⟩ : ∃ x, x = hulI (xs m) (intI 0) := ⟨_, rfl⟩
  rw [← hhu] at HU
  have HHU := Lib.hid hhu.symm
  clear hhu
  obtain ⟨iz, hiz⟩ : ∃ x, x = intI 0 := ⟨_, rfl⟩
  rw [← hiz] at HU I0
  clear hiz
  have m2 : (m : Int) ≤ cap := by omega
  go_enter Try.func80, Try.ntmps80
  go_wp2_with fail
  refine AnyS.region (S := ConS (fun u => u.cell? ⟨b, m * 2, none⟩ = some (.int .i64 (xs m).1) ∧ u.cell? ⟨b, m * 2 + 1, none⟩ = some (.int .i64 (xs m).2))) (by kernel_rfl) (show AnyS _ _ _ _ _ 13 _ _ _ from ?_)
  refine AnyS.take (i := 0) (v := .slice (some ⟨b, 0, none⟩) (m + 1) cap) (T := fun u => True) [] rfl (by kernel_rfl) (by kernel_rfl) (by kernel_rfl) (by kernel_rfl) (by kernel_rfl) (fun _ _ _ h => h) (fun L u q s => trivial) (fun L u s => s) (Or.inl ⟨by rfl, ?_⟩) (ConS.mk ⟨x0, x1⟩) ?_
  · intro u hu
    clear hu
    go_simp
  try simp only [Act.put, List.setIfInBounds_toArray, List.set_cons_zero, List.set_cons_succ]
  refine AnyS.take (i := 1) (v := .int .i64 (m : Int)) (T := fun u => True) [] rfl (by kernel_rfl) (by kernel_rfl) (by kernel_rfl) (by kernel_rfl) (by kernel_rfl) (fun _ _ _ h => h) (fun L u q s => trivial) (fun L u s => s) (Or.inl ⟨by rfl, ?_⟩) (ConS.mk ⟨x0, x1⟩) ?_
  · intro u hu
    clear hu
    go_simp
  try simp only [Act.put, List.setIfInBounds_toArray, List.set_cons_zero, List.set_cons_succ]
  refine AnyS.take (i := 2) (v := .int .i64 (m : Int)) (T := fun u => True) [] rfl (by kernel_rfl) (by kernel_rfl) (by kernel_rfl) (by kernel_rfl) (by kernel_rfl) (fun _ _ _ h => h) (fun L u q s => trivial) (fun L u s => s) (Or.inl ⟨by rfl, ?_⟩) (ConS.mk ⟨x0, x1⟩) ?_
  · intro u hu
    clear hu
    go_simp
  try simp only [Act.put, List.setIfInBounds_toArray, List.set_cons_zero, List.set_cons_succ]
  refine AnyS.take (i := 3) (v := .slice (some ⟨b, 0, none⟩) m m) (T := fun u => True) [] rfl (by kernel_rfl) (by kernel_rfl) (by kernel_rfl) (by kernel_rfl) (by kernel_rfl) (fun _ _ _ h => h) (fun L u q s => trivial) (fun L u s => s) (Or.inl ⟨by rfl, ?_⟩) (ConS.mk ⟨x0, x1⟩) ?_
  · intro u hu
    clear hu
    go_simp
  try simp only [Act.put, List.setIfInBounds_toArray, List.set_cons_zero, List.set_cons_succ]
  refine AnyS.take (i := 4) (v := .slice (some ⟨b, 0, none⟩) (m + 1) cap) (T := fun u => True) [] rfl (by kernel_rfl) (by kernel_rfl) (by kernel_rfl) (by kernel_rfl) (by kernel_rfl) (fun _ _ _ h => h) (fun L u q s => trivial) (fun L u s => s) (Or.inl ⟨by rfl, ?_⟩) (ConS.mk ⟨x0, x1⟩) ?_
  · intro u hu
    clear hu
    go_simp
  try simp only [Act.put, List.setIfInBounds_toArray, List.set_cons_zero, List.set_cons_succ]
  refine AnyS.take (i := 5) (v := .int .i64 (m : Int)) (T := fun u => True) [] rfl (by kernel_rfl) (by kernel_rfl) (by kernel_rfl) (by kernel_rfl) (by kernel_rfl) (fun _ _ _ h => h) (fun L u q s => trivial) (fun L u s => s) (Or.inl ⟨by rfl, ?_⟩) (ConS.mk ⟨x0, x1⟩) ?_
  · intro u hu
    clear hu
    go_simp
  try simp only [Act.put, List.setIfInBounds_toArray, List.set_cons_zero, List.set_cons_succ]
  refine AnyS.take (i := 6) (v := .pointer (some ⟨b, m * 2, none⟩)) (T := fun u => True) [] rfl (by kernel_rfl) (by kernel_rfl) (by kernel_rfl) (by kernel_rfl) (by kernel_rfl) (fun _ _ _ h => h) (fun L u q s => trivial) (fun L u s => s) (Or.inl ⟨by rfl, ?_⟩) (ConS.mk ⟨x0, x1⟩) ?_
  · intro u hu
    clear hu
    go_simp
    intro h
    omega
  try simp only [Act.put, List.setIfInBounds_toArray, List.set_cons_zero, List.set_cons_succ]
  refine AnyS.take (i := 7) (v := .agg #[.int .i64 (xs m).1, .int .i64 (xs m).2]) (T := fun u => u.cell? ⟨b, m * 2, none⟩ = some (.int .i64 (xs m).1) ∧ u.cell? ⟨b, m * 2 + 1, none⟩ = some (.int .i64 (xs m).2)) [] rfl (by kernel_rfl) (by kernel_rfl) (by kernel_rfl) (by kernel_rfl) (by kernel_rfl) (fun _ _ _ h => h) (fun L u q s => s) (fun L u s => s) (Or.inl ⟨by rfl, ?_⟩) (ConS.mk ⟨x0, x1⟩) ?_
  · intro u hu
    obtain ⟨u0, u1⟩ := hu
    go_simp
  try simp only [Act.put, List.setIfInBounds_toArray, List.set_cons_zero, List.set_cons_succ]
  refine AnyS.one (i := 8) (by kernel_rfl) (AnyS.comes rfl (fun K hK => ?_))
  go_simp
  refine (I0.out _).mono ?_
  rintro e w8 ⟨rfl, hb8⟩
  have hs8 : _ ≤ w8.heap.size := hb8.size
  try simp at hs8
  have y0_8 : w8.cell? ⟨b, m * 2, none⟩ = some (.int .i64 (xs m).1) := cell_kept hb8 (cell_drew x0)
  have y1_8 : w8.cell? ⟨b, m * 2 + 1, none⟩ = some (.int .i64 (xs m).2) := cell_kept hb8 (cell_drew x1)
  go_wp2_with fail
  refine hK.out _ _ (ConS.mk ⟨y0_8, y1_8⟩) ?_
  clear hK K
  try simp only [Act.put, List.setIfInBounds_toArray, List.set_cons_zero, List.set_cons_succ]
  refine AnyS.one (i := 9) (by kernel_rfl) (AnyS.comes rfl (fun K hK => ?_))
  go_simp
  refine (HU.out _).mono ?_
  rintro e w9 ⟨rfl, hb9⟩
  have hs9 : _ ≤ w9.heap.size := hb9.size
  try simp at hs9
  have y0_9 : w9.cell? ⟨b, m * 2, none⟩ = some (.int .i64 (xs m).1) := cell_kept hb9 y0_8
  have y1_9 : w9.cell? ⟨b, m * 2 + 1, none⟩ = some (.int .i64 (xs m).2) := cell_kept hb9 y1_8
  go_wp2_with fail
  refine hK.out _ _ (ConS.mk ⟨y0_9, y1_9⟩) ?_
  clear hK K
  try simp only [Act.put, List.setIfInBounds_toArray, List.set_cons_zero, List.set_cons_succ]
  refine AnyS.one (i := 10) (by kernel_rfl) (AnyS.comes rfl (fun K hK => ?_))
  go_simp
  refine hK.out _ _ (ConS.mk ⟨cell_alloc y0_9, cell_alloc y1_9⟩) ?_
  clear hK K
  try simp only [Act.put, List.setIfInBounds_toArray, List.set_cons_zero, List.set_cons_succ]
  have olds : ∀ ad, (some ⟨b, 0, none⟩ : Option Addr) = some ad → ∀ j u, (cellsL xs m)[j]? = some u → (w9.alloc (.cells #[.int .i64 hu.1, .int .i64 hu.2] 23)).cell? (ad.add j) = some u := by
    intro ad e j u h
    cases e
    obtain ⟨l, rfl⟩ := cellsL_get xs m j u h
    have z := HC.out (j / 2) (by omega)
    have at_ : w.cell? ⟨b, j, none⟩ = some (if j % 2 = 0 then .int .i64 (xs (j / 2)).1 else .int .i64 (xs (j / 2)).2) := by
      by_cases p : j % 2 = 0
      · rw [if_pos p]; have e : 2 * (j / 2) = j := by omega
        rw [e] at z; exact z.1
      · rw [if_neg p]; have e : 2 * (j / 2) + 1 = j := by omega
        rw [e] at z; exact z.2
    have at9 := cell_alloc (o := .cells #[.int .i64 hu.1, .int .i64 hu.2] 23) (cell_kept hb9 (cell_kept hb8 (cell_drew at_)))
    have ea : (⟨b, 0, none⟩ : Addr).add j = ⟨b, j, none⟩ := by
      by_cases q : j = 0
      · subst q; rfl
      · simp [Addr.add, q]
    rw [ea]
    exact at9
  have news : ∀ j u, ([.int .i64 hu.1, .int .i64 hu.2] : List Value)[j]? = some u → (w9.alloc (.cells #[.int .i64 hu.1, .int .i64 hu.2] 23)).cell? ((⟨w9.heap.size, 0, none⟩ : Addr).add j) = some u := by
    intro j u h
    match j, h with
    | 0, h => simp at h; subst h; simp [Addr.add, go_sem]
    | 1, h => simp at h; subst h; simp [Addr.add, go_sem]
  have k8 := hb8.size
  have k9 := hb9.size
  simp at k8
  refine AnyS.one (i := 11) (by kernel_rfl) (AnyS.comes rfl (fun K hK => ?_))
  refine step_append_grows rfl (.tmp 10) (.tmp 17) 66 rfl 23 i0 (.agg #[.int .i64 0, .int .i64 0]) 2 16 Try.underlying66 hi hz0 hz1 hz2 rfl (by decide) (some ⟨b, 0, none⟩) m m (cellsL xs m) (by simp [Act.eval, Act.put]) (fun h => by cases h) (cellsL_length xs m) olds ⟨w9.heap.size, 0, none⟩ 1 1 [.int .i64 hu.1, .int .i64 hu.2] (by simp [Act.eval, Act.put]) rfl news (by intro u h; simp at h; rcases h with rfl | rfl <;> rfl) (by omega) (by unfold maxLen; omega) (by omega) ?_
  intro v' w' hown hgrow
  obtain ⟨gb, cb, rfl⟩ := Joins.ownsRow_form hown (by omega)
  have old_ : ∀ (x : Nat) (o : Nat), x < w.heap.size → w'.cell? ⟨x, o, none⟩ = w.cell? ⟨x, o, none⟩ := by
    intro x o h
    have g1 : w'.cell? ⟨x, o, none⟩ = (w9.alloc (.cells #[.int .i64 hu.1, .int .i64 hu.2] 23)).cell? ⟨x, o, none⟩ := World.cell?_of_block (hgrow.block x (by simp; omega) (by simp))
    rw [g1, World.cell?_alloc_past _ _ _ (by omega), hb9.cell (by show x < _; omega), hb8.cell (by show x < _; simp; omega)]
    rfl
  have lb : b < w.heap.size := World.block_lt_of_cell? _ _ x0
  have BW : Below w.heap.size w w' := by
    have gs := hgrow.size
    simp at gs
    refine ⟨hgrow.os.trans (hb9.os.trans hb8.os), hgrow.tape.trans (hb9.tape.trans hb8.tape), hgrow.output.trans (hb9.output.trans hb8.output), by omega, fun x hx => ?_⟩
    exact (hgrow.block x (by simp; omega) (by simp)).trans ((Below.heap_alloc _ _ _ (by omega)).trans ((hb9.block x (by omega)).trans (hb8.block x (by simp; omega))))
  have RES : ∀ j, j < m + 1 → w'.cell? ⟨gb, 2 * j, none⟩ = some (.int .i64 (resF xs m j).1) ∧ w'.cell? ⟨gb, 2 * j + 1, none⟩ = some (.int .i64 (resF xs m j).2) := by
    intro j hj
    have z := cellsL_at (resF xs m) (m + 1) j hj
    rw [show cellsL (resF xs m) (m + 1) = cellsL xs m ++ [.int .i64 hu.1, .int .i64 hu.2] by rw [resF_cells, HHU.out]] at z
    exact ⟨(hown.cellAt (2 * j) (by omega)).trans z.1, (hown.cellAt (2 * j + 1) (by omega)).trans z.2⟩
  clear hown hgrow olds news
  refine hK.out _ _ (ConS.mk ⟨(old_ b _ lb).trans x0, (old_ b _ lb).trans x1⟩) ?_
  clear hK K
  try simp only [Act.put, List.setIfInBounds_toArray, List.set_cons_zero, List.set_cons_succ]
  refine AnyS.one (i := 12) (by kernel_rfl) (AnyS.comes rfl (fun K hK => ?_))
  go_simp
  refine hK.out _ _ (ConS.mk ⟨(old_ b _ lb).trans x0, (old_ b _ lb).trans x1⟩) ?_
  clear hK K
  try simp only [Act.put, List.setIfInBounds_toArray, List.set_cons_zero, List.set_cons_succ]
  refine AnyS.done (by kernel_rfl) ?_ _
  go_wp2
  go_ret
  exact ⟨gb, cb, rfl, RES, BW⟩
end Go.Proofs.Ytnnanbaldcjfiaa
